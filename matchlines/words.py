"""Integers as they are written in texts and commands."""

MOST_DIGITS = 30


def whole_of(word):
    """The integer that a word writes, or None if it writes none."""
    digits = word.removeprefix("-")
    # Python refuses to read very many digits, so they are counted first.
    if not digits.isascii() or not digits.isdigit() or len(digits) > MOST_DIGITS:
        return None
    number = int(word)
    # So leading zeros and "-0" are refused.
    return number if str(number) == word else None


def wholes_of(words):
    """The integers that words write, as a tuple, with None for each word that writes none."""
    return tuple([whole_of(word) for word in words])


def words_of(numbers):
    """The text of integers, separated by single spaces."""
    return " ".join([str(number) for number in numbers])

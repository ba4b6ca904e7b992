"""Lines, books and prices, and the sequence of lines.

A line is a tuple (id, day, amount), a book is a list of lines with different ids.
"""

MOST_ID = 10 ** 6
MOST_DAY = 10 ** 6
MOST_AMOUNT = 10 ** 12
MOST_PRICE = 10 ** 12


def is_whole(value):
    """Whether any value is an integer; a bool is none."""
    return isinstance(value, int) and not isinstance(value, bool)


def is_within(value, low, high):
    """Whether any value is an integer from low to high."""
    return is_whole(value) and low <= value <= high


def is_line(value):
    """Whether any value is a line."""
    if not isinstance(value, tuple) or len(value) != 3:
        return False
    row_id, day, amount = value
    if not is_within(row_id, 1, MOST_ID) or not is_within(day, 0, MOST_DAY):
        return False
    return is_within(amount, -MOST_AMOUNT, MOST_AMOUNT) and amount != 0


def is_book(value):
    """Whether any value is a book."""
    if not isinstance(value, list):
        return False
    # The ids are compared only where all are known to be integers: other values may be no members of a set.
    if not all([is_line(line) for line in value]):
        return False
    return len({line[0] for line in value}) == len(value)


def is_price(value):
    """Whether any value is a price."""
    return is_within(value, 0, MOST_PRICE)


def by_id(book):
    """The lines of a book by their ids."""
    return {line[0]: line for line in book}


def sequence(own, other):
    """All lines of two books as ("own", line) and ("other", line), in their sequence."""
    # The names of the two sides would sort the other way round, so numbers stand for them.
    rows = [(line[1], 0, line[0], "own", line) for line in own]
    rows = rows + [(line[1], 1, line[0], "other", line) for line in other]
    return [(row[3], row[4]) for row in sorted(rows)]


def lines_of(book, amount):
    """The lines of an amount, by day, then by id."""
    rows = sorted([(line[1], line[0], line) for line in book if line[2] == amount])
    return [row[2] for row in rows]


def amounts_of(own, other):
    """The amounts that both books have, ascending."""
    return sorted({line[2] for line in own} & {line[2] for line in other})

"""Books and comparisons as texts, and back.

A text that is read is written again, and must come out as it was; so there is just one text for each book and for each
comparison.
"""

from matchlines.books import by_id, is_book, is_price
from matchlines.comparison import Comparison
from matchlines.errors import BadText
from matchlines.words import wholes_of, words_of

EMPTY = "nothing"


def book_text(book):
    """The text of a book."""
    if not book:
        return EMPTY
    return "\n".join([words_of(line) for line in sorted(book)])


def read_book(text):
    """The book with this text, sorted by ids, or BadText for any other value."""
    if not isinstance(text, str):
        raise BadText(text)
    if text == EMPTY:
        return []
    book = [wholes_of(row.split(" ")) for row in text.split("\n")]
    if not is_book(book) or book_text(book) != text:
        raise BadText(text)
    return book


def comparison_text(comparison):
    """The text of a comparison."""
    rows = [f"price {comparison.price}"]
    rows.extend([f"own {words_of(line)}" for line in comparison.own])
    rows.extend([f"other {words_of(line)}" for line in comparison.other])
    rows.extend([f"pair {words_of(pair)}" for pair in comparison.confirmed])
    return "\n".join(rows)


def read_comparison(text):
    """The comparison with this text, or BadText for any other value."""
    if not isinstance(text, str):
        raise BadText(text)
    prices = _numbers_behind("price", text)
    own = _numbers_behind("own", text)
    other = _numbers_behind("other", text)
    confirmed = _numbers_behind("pair", text)
    if len(prices) != 1 or len(prices[0]) != 1 or not is_price(prices[0][0]):
        raise BadText(text)
    if not _fits(own) or not _fits(other) or not _are_confirmed(own, other, confirmed):
        raise BadText(text)
    comparison = Comparison.made(own, other, prices[0][0], confirmed)
    # Rows in another sequence, and rows that begin with any other word, are found here.
    if comparison_text(comparison) != text:
        raise BadText(text)
    return comparison


def _numbers_behind(word, text):
    """What the rows that begin with this word write behind it, a tuple for each row."""
    rows = [row.split(" ") for row in text.split("\n")]
    return [wholes_of(row[1:]) for row in rows if row[0] == word]


def _fits(rows):
    """Whether these are a book that a comparison can have."""
    return is_book(rows) and len(rows) <= Comparison.LIMIT


def _are_confirmed(own, other, rows):
    """Whether these are confirmed pairs of two books."""
    if not all([len(row) == 2 for row in rows]):
        return False
    own_ids = [row[0] for row in rows]
    other_ids = [row[1] for row in rows]
    if len(set(own_ids)) != len(rows) or len(set(other_ids)) != len(rows):
        return False
    return _all_known(own, own_ids) and _all_known(other, other_ids)


def _all_known(book, row_ids):
    """Whether a book has all of these ids."""
    lines = by_id(book)
    return all([row_id in lines for row_id in row_ids])

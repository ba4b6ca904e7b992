"""Reports of a comparison: sums of amounts and left over lines for a span of days, and the balance of the books."""

from matchlines.books import MOST_DAY, is_within, sequence
from matchlines.errors import BadSpan


def report(comparison, first, last):
    """The sums (all, confirmed, matched, left) of both books for these days, or BadSpan."""
    _check_span(first, last)
    confirmed = comparison.confirmed
    matched = comparison.pairs()
    own_rows = _within(comparison.own, first, last)
    other_rows = _within(comparison.other, first, last)
    own_sums = _sums(own_rows, [pair[0] for pair in confirmed], [pair[0] for pair in matched])
    other_sums = _sums(other_rows, [pair[1] for pair in confirmed], [pair[1] for pair in matched])
    return own_sums, other_sums


def left_lines(comparison, first, last):
    """Yield the left over lines of these days in their sequence, with the names of their books, or BadSpan."""
    _check_span(first, last)
    own_ids, other_ids = comparison.left()
    own_rows = _chosen(_within(comparison.own, first, last), own_ids)
    other_rows = _chosen(_within(comparison.other, first, last), other_ids)
    # All are taken before the first answer, so that a change between two answers leaves the rest as it was.
    for row in sequence(own_rows, other_rows):
        yield row


def balance(comparison):
    """The sum of the own amounts less that of the other book's amounts."""
    return _total(comparison.own) - _total(comparison.other)


def _check_span(first, last):
    """BadSpan if any two values are not the first and the last day of a span."""
    if not is_within(first, 0, MOST_DAY) or not is_within(last, first, MOST_DAY):
        raise BadSpan((first, last))


def _within(book, first, last):
    """The lines of a book on these days."""
    return [line for line in book if first <= line[1] <= last]


def _chosen(book, row_ids):
    """The lines of a book that have these ids."""
    among = {row_id: True for row_id in row_ids}
    return [line for line in book if line[0] in among]


def _sums(rows, confirmed_ids, matched_ids):
    """The sums of all lines, of the confirmed ones, of the matched ones, and of the rest."""
    total = _total(rows)
    confirmed = _total(_chosen(rows, confirmed_ids))
    matched = _total(_chosen(rows, matched_ids))
    return total, confirmed, matched, total - confirmed - matched


def _total(rows):
    """The sum of the amounts of lines."""
    return sum([line[2] for line in rows])

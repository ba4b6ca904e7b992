"""Possible pairs and matchings of two books, what they cost, and lines that are paired in sequence.

A pair is a tuple (own id, other id), a matching is a list of possible pairs, sorted by own ids.
"""

from matchlines.books import by_id, is_whole
from matchlines.errors import Unpaired


def days_apart(own_line, other_line):
    """The days between two lines, whatever their amounts are."""
    return abs(own_line[1] - other_line[1])


def is_possible(own, other, pair):
    """Whether any value is a possible pair of two books."""
    return _is_pair_among(by_id(own), by_id(other), pair)


def is_matching(own, other, value):
    """Whether any value is a matching of two books."""
    if not isinstance(value, list):
        return False
    own_lines = by_id(own)
    other_lines = by_id(other)
    if not all([_is_pair_among(own_lines, other_lines, pair) for pair in value]):
        return False
    # Own ids that ascend are different ones, too.
    return _ascend([pair[0] for pair in value]) and len({pair[1] for pair in value}) == len(value)


def cost_of(own, other, pairs):
    """The cost of a matching: the sum of its days apart."""
    own_lines = by_id(own)
    other_lines = by_id(other)
    return sum([days_apart(own_lines[own_id], other_lines[other_id]) for own_id, other_id in pairs])


def worth_of(own, other, pairs, price):
    """The worth of a matching at a price."""
    return price * len(pairs) - cost_of(own, other, pairs)


def can_be_paired(own, other, own_ids, other_ids):
    """Whether the lines with these ids can be paired."""
    return len(_uneven_amounts(_chosen(own, own_ids), _chosen(other, other_ids))) == 0


def in_sequence(own, other, own_ids, other_ids):
    """The matching of the lines with these ids in sequence, or Unpaired with the least amount that is uneven."""
    own_lines = _chosen(own, own_ids)
    other_lines = _chosen(other, other_ids)
    uneven = _uneven_amounts(own_lines, other_lines)
    if uneven:
        raise Unpaired(uneven[0])
    # Both sides have as many lines of each amount, so the lines that meet in the zip have the same one.
    return sorted(zip(_ids_by_amount(own_lines), _ids_by_amount(other_lines)))


def _is_pair_among(own_lines, other_lines, pair):
    """Whether any value is a possible pair of these lines, which are given by their ids."""
    if not isinstance(pair, tuple) or len(pair) != 2:
        return False
    own_id, other_id = pair
    # Asked first, since True would be found where 1 is, and a list can't be looked up at all.
    if not is_whole(own_id) or not is_whole(other_id):
        return False
    if own_id not in own_lines or other_id not in other_lines:
        return False
    return own_lines[own_id][2] == other_lines[other_id][2]


def _ascend(numbers):
    """Whether each number is greater than the one before it."""
    return all([low < high for low, high in zip(numbers, numbers[1:])])


def _chosen(book, row_ids):
    """The lines of a book that have these ids."""
    lines = by_id(book)
    return [lines[row_id] for row_id in row_ids]


def _uneven_amounts(own_lines, other_lines):
    """The ascending list of the amounts of which there are not as many lines on both sides."""
    excess = {}
    for line in own_lines:
        excess[line[2]] = excess.get(line[2], 0) + 1
    for line in other_lines:
        excess[line[2]] = excess.get(line[2], 0) - 1
    return sorted([amount for amount in excess if excess[amount] != 0])


def _ids_by_amount(lines):
    """The ids of lines by amount, then by day, then by id."""
    rows = sorted([(line[2], line[1], line[0]) for line in lines])
    return [row[2] for row in rows]

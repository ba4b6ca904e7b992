"""Gains of lines, and certificates: whole numbers which show that a matching is best at a price."""

from matchlines.books import amounts_of, by_id, is_whole, lines_of
from matchlines.flows import highest_of, lowest_of
from matchlines.matchings import days_apart, worth_of
from matchlines.prices import matching_at


def gains(own, other, price):
    """The gains of all lines at a price, as two dicts from their ids."""
    return gains_beside(own, other, price, matching_at(own, other, price))


def certificate(own, other, price):
    """The certificate of the best matching at a price."""
    pairs = matching_at(own, other, price)
    own_numbers = gains_beside(own, other, price, pairs)[0]
    own_lines = by_id(own)
    other_lines = by_id(other)
    other_numbers = {line[0]: 0 for line in other}
    for own_id, other_id in pairs:
        apart = days_apart(own_lines[own_id], other_lines[other_id])
        other_numbers[other_id] = price - apart - own_numbers[own_id]
    return own_numbers, other_numbers


def is_certificate(own, other, price, pairs, value):
    """Whether any value is a certificate for a matching at a price."""
    if not isinstance(value, tuple) or len(value) != 2:
        return False
    own_numbers, other_numbers = value
    if not _are_numbers(own, own_numbers) or not _are_numbers(other, other_numbers):
        return False
    if not _cover(own, other, price, own_numbers, other_numbers):
        return False
    total = sum(own_numbers.values()) + sum(other_numbers.values())
    return total == worth_of(own, other, pairs, price)


def gains_beside(own, other, price, pairs):
    """The gains of all lines at a price, whose best matching is given."""
    own_gains = {line[0]: 0 for line in own}
    other_gains = {line[0]: 0 for line in other}
    for amount in amounts_of(own, other):
        own_lines = lines_of(own, amount)
        other_lines = lines_of(other, amount)
        highest = highest_of(own_lines, other_lines, pairs, price)
        lowest = lowest_of(own_lines, other_lines, pairs, price)
        # A gain is the greatest number that a line has in any certificate.
        for row_id, day, _ in own_lines:
            own_gains[row_id] = highest[day]
        for row_id, day, _ in other_lines:
            other_gains[row_id] = price - lowest[day]
    return own_gains, other_gains


def _are_numbers(book, value):
    """Whether any value is a dict from all ids of a book to integers from 0 on."""
    if not isinstance(value, dict) or len(value) != len(book):
        return False
    # A key True would be found where 1 is.
    if not all([is_whole(key) for key in value]) or not all([line[0] in value for line in book]):
        return False
    return all([is_whole(value[key]) and value[key] >= 0 for key in value])


def _cover(own, other, price, own_numbers, other_numbers):
    """Whether the two numbers of each possible pair add up to what it is worth, at least."""
    for amount in amounts_of(own, other):
        other_lines = lines_of(other, amount)
        for own_line in lines_of(own, amount):
            number = own_numbers[own_line[0]]
            for other_line in other_lines:
                if number + other_numbers[other_line[0]] < price - days_apart(own_line, other_line):
                    return False
    return True

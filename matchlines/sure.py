"""What is in all, in some or in none of the matchings of greatest worth at a price.

These are told from the level functions of an amount that have the greatest worth as their total: a pair is in some of
the matchings if in each of these functions the levels of its days differ by just its days apart, the higher level at
the other book's line; and a line is in all of the matchings if it has a gain.
"""

from matchlines.books import amounts_of, lines_of
from matchlines.certificates import gains_beside
from matchlines.flows import flows_of, highest_of, lowest_of
from matchlines.prices import matching_at

ALWAYS = "always"
SOMETIMES = "sometimes"
NEVER = "never"

FIXED = 0


def line_states(own, other, price):
    """How sure each line is at a price, as two dicts from their ids to words."""
    return states_beside(own, other, price, matching_at(own, other, price))


def pair_states(own, other, price):
    """How sure each possible pair is at a price, as a dict to words."""
    pairs = matching_at(own, other, price)
    own_gains = gains_beside(own, other, price, pairs)[0]
    made = _made_pairs(own, other, price, pairs)
    partners = {}
    for own_id, _ in made:
        partners[own_id] = partners.get(own_id, 0) + 1
    states = {pair: NEVER for pair in _possible_pairs(own, other)}
    for pair in made:
        # An own line that is in all matchings, always with the same partner, makes this pair in all of them.
        is_always = own_gains[pair[0]] > 0 and partners[pair[0]] == 1
        states[pair] = ALWAYS if is_always else SOMETIMES
    return states


def sure_pairs(own, other, price):
    """Yield the pairs that are always made at a price, sorted."""
    states = pair_states(own, other, price)
    for pair in sorted(states):
        if states[pair] == ALWAYS:
            yield pair


def states_beside(own, other, price, pairs):
    """How sure each line is at a price, given any matching of greatest worth."""
    own_gains, other_gains = gains_beside(own, other, price, pairs)
    made = _made_pairs(own, other, price, pairs)
    own_made = {pair[0]: True for pair in made}
    other_made = {pair[1]: True for pair in made}
    return _line_words(own_gains, own_made), _line_words(other_gains, other_made)


def _line_words(line_gains, made):
    """The words for the lines of a book, of which some are made in some matchings."""
    states = {}
    for row_id in line_gains:
        if line_gains[row_id] > 0:
            states[row_id] = ALWAYS
        else:
            states[row_id] = SOMETIMES if row_id in made else NEVER
    return states


def _possible_pairs(own, other):
    """All possible pairs of two books."""
    found = []
    for amount in amounts_of(own, other):
        other_lines = lines_of(other, amount)
        found.extend([(line[0], after[0]) for line in lines_of(own, amount) for after in other_lines])
    return found


def _made_pairs(own, other, price, pairs):
    """The pairs that are in some matchings of greatest worth at a price, whose best matching is given."""
    found = []
    for amount in amounts_of(own, other):
        found.extend(_amount_made(lines_of(own, amount), lines_of(other, amount), price, pairs))
    return found


def _amount_made(own_lines, other_lines, price, pairs):
    """Those of one amount."""
    highest = highest_of(own_lines, other_lines, pairs, price)
    lowest = lowest_of(own_lines, other_lines, pairs, price)
    groups = _groups(highest, lowest, flows_of(own_lines, other_lines, pairs))
    found = []
    for own_id, own_day, _ in own_lines:
        for other_id, other_day, _ in other_lines:
            rise = highest[other_day] - highest[own_day]
            if groups[own_day] == groups[other_day] and rise == abs(other_day - own_day):
                found.append((own_id, other_id))
    return found


def _groups(highest, lowest, gaps):
    """A number for each day, the same for two days if their levels differ by the same in all the functions.

    Levels move together over a gap that has a flow. Those that can't move at all are one group.
    """
    number = FIXED + 1
    groups = {day: number for day in highest}
    for _, after, flow in gaps:
        number += 1 if flow == 0 else 0
        groups[after] = number
    for day in highest:
        if highest[day] == lowest[day]:
            groups[day] = FIXED
    return groups

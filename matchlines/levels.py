"""Level functions, which bound what any matching of the lines of an amount is worth, and the marks of lines."""

from matchlines.books import amounts_of, is_whole, is_within, lines_of
from matchlines.flows import highest_of, lowest_of
from matchlines.prices import break_prices, line_prices, matching_at
from matchlines.steps import paired_after, steps
from matchlines.sure import ALWAYS, SOMETIMES, states_beside


def are_levels(own, other, amount, price, value):
    """Whether any value is a level function of an amount at a price."""
    days = sorted({line[1] for line in lines_of(own, amount) + lines_of(other, amount)})
    if not isinstance(value, dict) or len(value) != len(days):
        return False
    # A key True would be found where 1 is.
    if not all([is_whole(key) for key in value]) or not all([day in value for day in days]):
        return False
    if not all([is_within(value[day], 0, price) for day in days]):
        return False
    return all([abs(value[after] - value[day]) <= after - day for day, after in zip(days, days[1:])])


def levels_total(own, other, amount, price, levels):
    """The total of a level function."""
    total = sum([levels[line[1]] for line in lines_of(own, amount)])
    return total + sum([price - levels[line[1]] for line in lines_of(other, amount)])


def lowest_levels(own, other, amount, price):
    """What one more own line of the amount would add to the greatest worth, by its day."""
    own_lines = lines_of(own, amount)
    other_lines = lines_of(other, amount)
    return lowest_of(own_lines, other_lines, matching_at(own_lines, other_lines, price), price)


def highest_levels(own, other, amount, price):
    """The price less what one more line of the other book would add, by its day."""
    own_lines = lines_of(own, amount)
    other_lines = lines_of(other, amount)
    return highest_of(own_lines, other_lines, matching_at(own_lines, other_lines, price), price)


def marks(own, other):
    """The marks (first price, price, sure price) of all lines, as two dicts from their ids."""
    own_marks = {line[0]: (None, None, None) for line in own}
    other_marks = {line[0]: (None, None, None) for line in other}
    for amount in amounts_of(own, other):
        own_told, other_told = _amount_marks(lines_of(own, amount), lines_of(other, amount))
        own_marks.update(own_told)
        other_marks.update(other_told)
    return own_marks, other_marks


def _amount_marks(own_lines, other_lines):
    """The marks of the lines of one amount, as two dicts."""
    joining = steps(own_lines, other_lines)
    own_firsts, own_sures = {}, {}
    other_firsts, other_sures = {}, {}
    # A line gets into some matchings at a price at which pairs come, and into all of them right behind such a price.
    for price in break_prices(own_lines, other_lines):
        pairs = paired_after(own_lines, other_lines, [step for step in joining if step[0] <= price])
        own_states, other_states = states_beside(own_lines, other_lines, price, pairs)
        _note(own_firsts, own_states, (ALWAYS, SOMETIMES), price)
        _note(other_firsts, other_states, (ALWAYS, SOMETIMES), price)
        # What comes at the next price is worth nothing there yet, so these pairs have the greatest worth at it, too.
        own_states, other_states = states_beside(own_lines, other_lines, price + 1, pairs)
        _note(own_sures, own_states, (ALWAYS,), price + 1)
        _note(other_sures, other_states, (ALWAYS,), price + 1)
    own_prices, other_prices = line_prices(own_lines, other_lines)
    return _put_together(own_firsts, own_prices, own_sures), _put_together(other_firsts, other_prices, other_sures)


def _note(found, states, words, price):
    """Note the price for each line whose state is one of these words, if no lesser price is noted for it."""
    for row_id in states:
        if states[row_id] in words and row_id not in found:
            found[row_id] = price


def _put_together(firsts, prices, sures):
    """The marks of lines, as a dict from their ids."""
    return {row_id: (firsts.get(row_id), prices[row_id], sures.get(row_id)) for row_id in prices}

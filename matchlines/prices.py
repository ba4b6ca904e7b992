"""The best matchings at a price, and the prices at which lines join."""

from matchlines.steps import paired_after, steps


def matching_at(own, other, price):
    """The best matching at a price."""
    return paired_after(own, other, _steps_at(own, other, price))


def worth_at(own, other, price):
    """The worth of the best matching at a price, which is the greatest one."""
    return sum([price - step[0] for step in _steps_at(own, other, price)])


def pairs_at(own, other, price):
    """The number of pairs of the best matching at a price."""
    return len(_steps_at(own, other, price))


def line_prices(own, other):
    """The prices of all lines, as two dicts from their ids; None for a line that never joins."""
    own_prices = {line[0]: None for line in own}
    other_prices = {line[0]: None for line in other}
    for days, own_id, other_id in steps(own, other):
        own_prices[own_id] = days
        other_prices[other_id] = days
    return own_prices, other_prices


def break_prices(own, other):
    """The prices at which the number of pairs grows, ascending, each once."""
    return sorted({step[0] for step in steps(own, other)})


def _steps_at(own, other, price):
    """The steps that are made at a price."""
    return [step for step in steps(own, other) if step[0] <= price]

"""The steps: what one pair more costs, and which lines join for it.

Lines of different amounts are never paired, so each amount has steps of its own. All of them together, sorted by
their days and then by the lines that join, are the steps of the two books.
"""

from matchlines.books import amounts_of, is_within, lines_of, sequence
from matchlines.errors import BadNumber
from matchlines.matchings import in_sequence


def steps(own, other):
    """The steps of two books, as (days, own id, other id)."""
    found = []
    for amount in amounts_of(own, other):
        found.extend(_amount_steps(lines_of(own, amount), lines_of(other, amount)))
    return [row[1] for row in sorted(found)]


def best_matching(own, other, number):
    """The best matching of so many pairs, or BadNumber."""
    return paired_after(own, other, _first_steps(own, other, number))


def least_cost(own, other, number):
    """The cost of the best matching of so many pairs, or BadNumber."""
    return sum([step[0] for step in _first_steps(own, other, number)])


def costs(own, other):
    """Yield the costs of the best matchings of 0, 1, 2, .. pairs."""
    # All steps are taken before the first answer, so that all answers are about the same books.
    joining = steps(own, other)
    total = 0
    yield total
    for step in joining:
        total += step[0]
        yield total


def paired_after(own, other, joining):
    """The best matching after these steps, the first ones of two books: the lines that join, in sequence."""
    return in_sequence(own, other, [step[1] for step in joining], [step[2] for step in joining])


def _first_steps(own, other, number):
    """The first steps, so many, or BadNumber."""
    joining = steps(own, other)
    if not is_within(number, 0, len(joining)):
        raise BadNumber(number)
    return joining[:number]


def _amount_steps(own_lines, other_lines):
    """The steps of the lines of one amount, each one as (its rank among all steps, step)."""
    rows = sequence(own_lines, other_lines)
    gaps = [after[1][1] - row[1][1] for row, after in zip(rows, rows[1:])] + [0]
    is_free = [True] * len(rows)
    # Behind each row: how many own lines before it are matched with lines behind it, negative if it is the other way.
    flows = [0] * len(rows)
    found = []
    for _ in range(min(len(own_lines), len(other_lines))):
        reached = _reached(rows, gaps, is_free, flows, "own") + _reached(rows, gaps, is_free, flows, "other")
        days, last, first = min(reached)
        is_free[first] = is_free[last] = False
        _carry(flows, first, last, _sign(rows[first][0]))
        found.append(_ranked(days, rows[last], rows[first]))
    return found


def _reached(rows, gaps, is_free, flows, side):
    """What it costs to join two lines, the first one of them on this side: a list of (days, last row, first row).

    For each last row there is only the best first row: of those that cost least, the earliest.
    """
    found = []
    sign = _sign(side)
    days, first = 0, None
    for place, row in enumerate(rows):
        if is_free[place] and row[0] != side and first is not None:
            found.append((days, place, first))
        if is_free[place] and row[0] == side and (first is None or days > 0):
            days, first = 0, place
        # What goes against the flow takes days back.
        days += gaps[place] if flows[place] * sign >= 0 else -gaps[place]
    return found


def _sign(side):
    """The flow that a matched line of this side adds behind it."""
    return 1 if side == "own" else -1


def _carry(flows, first, last, change):
    """Add to the flow behind each row from the first one to the one before the last."""
    for place in range(first, last):
        flows[place] += change


def _ranked(days, last, first):
    """A step of two lines that join, behind its rank: days, then the last line, then the first one."""
    # Of equal days the lesser last line comes first, since the better matching does not have the last one in question.
    rank = (days, _place(last), _place(first))
    own_line, other_line = (first[1], last[1]) if first[0] == "own" else (last[1], first[1])
    return rank, (days, own_line[0], other_line[0])


def _place(row):
    """What tells where a row stands in the sequence of all lines."""
    side, line = row
    return (line[1], 0 if side == "own" else 1, line[0])

"""The highest and lowest levels of the days at a price, for the lines of one amount.

Given any matching of greatest worth, the level functions with this worth as their total are those that are 0 where
an own line is left over, the price where a line of the other book is left over, and that rise by all the days of a
gap where own lines are matched with later ones over it, and fall by all of them where it is the other way.
"""


def flows_of(own_lines, other_lines, pairs):
    """The gaps between the days of these lines as (day, next day, flow).

    The flow is the number of the matched own lines up to the day less that of the other book's.
    """
    own_matched = {pair[0]: True for pair in pairs}
    other_matched = {pair[1]: True for pair in pairs}
    changes = {line[1]: 0 for line in own_lines + other_lines}
    for line in own_lines:
        changes[line[1]] += 1 if line[0] in own_matched else 0
    for line in other_lines:
        changes[line[1]] -= 1 if line[0] in other_matched else 0
    days = sorted(changes)
    found = []
    flow = 0
    for day, after in zip(days, days[1:]):
        flow += changes[day]
        found.append((day, after, flow))
    return found


def highest_of(own_lines, other_lines, pairs, price):
    """The highest level of each day; the pairs of these lines are a matching of greatest worth at the price."""
    gaps = flows_of(own_lines, other_lines, pairs)
    matched = {pair[0]: True for pair in pairs}
    levels = {line[1]: price for line in own_lines + other_lines}
    for line in own_lines:
        if line[0] not in matched:
            levels[line[1]] = 0
    # Each level bounds those of all days around it. Bounds are handed on first one way, then the other.
    for day, after, flow in gaps:
        rise = after - day if flow >= 0 else day - after
        levels[after] = min(levels[after], levels[day] + rise)
    for day, after, flow in gaps[::-1]:
        rise = after - day if flow <= 0 else day - after
        levels[day] = min(levels[day], levels[after] + rise)
    return levels


def lowest_of(own_lines, other_lines, pairs, price):
    """The lowest level of each day, likewise."""
    # With the two books exchanged, each level is the price less what it was, so the highest becomes the lowest.
    turned = highest_of(other_lines, own_lines, [(pair[1], pair[0]) for pair in pairs], price)
    return {day: price - turned[day] for day in turned}

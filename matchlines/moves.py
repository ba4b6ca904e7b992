"""Moves from one matching to another one: chains and rings of the pairs that are in just one of them."""

from matchlines.changes import pairs_without


def moves(first, second):
    """The chains and the rings of the move from the first matching to the second one."""
    single = pairs_without(first, second) + pairs_without(second, first)
    by_own = _gathered(single, 0)
    by_other = _gathered(single, 1)
    seen = {}
    chains = []
    rings = []
    for pair in single:
        if pair not in seen:
            found = _connected(pair, by_own, by_other)
            for near in found:
                seen[near] = True
            if _is_ring(found):
                rings.append(found)
            else:
                chains.append(found)
    return sorted(chains), sorted(rings)


def is_move(first, second, gone, come):
    """Whether the second matching is the first one without the pairs in gone and with those in come."""
    if _repeats(gone) or _repeats(come):
        return False
    # Of pairs that are in both lists, either the one in gone or the one in come is wrong here.
    if pairs_without(gone, first) or len(pairs_without(come, first)) != len(come):
        return False
    return sorted(pairs_without(first, gone) + come) == sorted(second)


def _gathered(pairs, at):
    """The pairs by their own ids (at 0) or by their other ids (at 1)."""
    found = {}
    for pair in pairs:
        found.setdefault(pair[at], []).append(pair)
    return found


def _connected(pair, by_own, by_other):
    """The sorted pairs that have a line in common with this one, directly or over others, and itself."""
    found = {pair: True}
    waiting = [pair]
    while waiting:
        own_id, other_id = waiting.pop()
        for near in by_own[own_id] + by_other[other_id]:
            if near not in found:
                found[near] = True
                waiting.append(near)
    return sorted(found)


def _is_ring(pairs):
    """Whether each line of these connected pairs is in two of them."""
    # No line is in more than two, so as many lines as pairs means that each of them is in two.
    return len({pair[0] for pair in pairs}) + len({pair[1] for pair in pairs}) == len(pairs)


def _repeats(pairs):
    """Whether a pair is in a list twice."""
    return len(set(pairs)) != len(pairs)

"""Small books, all of their matchings, tried one by one, and answers worked out from these, apart from the program."""

import inspect
import itertools
import random

from matchlines.errors import MatchError

EXAMPLE_OWN = [(1, 0, 100), (2, 4, 100)]
EXAMPLE_OTHER = [(1, 3, 100), (2, 5, 100)]

MOST_PRICE = 10 ** 12


def by_ids(book):
    return {line[0]: line for line in book}


def all_matchings(own, other):
    """All matchings of two books, also those that are not paired in sequence."""
    def longer(rest, taken):
        if not rest:
            yield []
            return
        yield from longer(rest[1:], taken)
        for line in other:
            if line[2] == rest[0][2] and line[0] not in taken:
                for pairs in longer(rest[1:], taken + [line[0]]):
                    yield [(rest[0][0], line[0])] + pairs
    return list(longer(sorted(own), []))


def plain_cost(own, other, pairs):
    own_days = {line[0]: line[1] for line in own}
    other_days = {line[0]: line[1] for line in other}
    return sum(abs(own_days[own_id] - other_days[other_id]) for own_id, other_id in pairs)


def plain_sequence(own, other):
    """The lines of two books in their sequence, each as (day, 0 for own or 1, id)."""
    return sorted([(line[1], 0, line[0]) for line in own] + [(line[1], 1, line[0]) for line in other])


def lines_in(own, other, pairs):
    """The lines of a matching, each as (day, 0 for own or 1, id)."""
    own_lines, other_lines = by_ids(own), by_ids(other)
    own_rows = {(own_lines[own_id][1], 0, own_id) for own_id, _ in pairs}
    return own_rows | {(other_lines[other_id][1], 1, other_id) for _, other_id in pairs}


def is_better(lines, others):
    """Whether a matching of some lines is better than one of other lines with the same cost."""
    single = lines ^ others
    return bool(single) and max(single) in others


def sequential(own, other, pairs):
    """Whether a matching is paired in sequence."""
    own_lines, other_lines = by_ids(own), by_ids(other)
    for pair, after in itertools.permutations(pairs, 2):
        first, second = own_lines[pair[0]], own_lines[after[0]]
        if first[2] == second[2] and (first[1], first[0]) < (second[1], second[0]):
            told = [(other_lines[row[1]][1], row[1]) for row in (pair, after)]
            if told[0] > told[1]:
                return False
    return True


def best_of_all(own, other, matchings, number):
    """The best one of so many pairs among all matchings."""
    rows = [pairs for pairs in matchings if len(pairs) == number]
    least = min(plain_cost(own, other, pairs) for pairs in rows)
    best = None
    for pairs in rows:
        if plain_cost(own, other, pairs) == least and sequential(own, other, pairs):
            if best is None or is_better(lines_in(own, other, pairs), lines_in(own, other, best)):
                best = pairs
    return best


def greatest(own, other, matchings, price):
    """The greatest worth of these matchings at a price, and those that have it."""
    worths = [price * len(pairs) - plain_cost(own, other, pairs) for pairs in matchings]
    return max(worths), [pairs for pairs, worth in zip(matchings, worths) if worth == max(worths)]


def drawn_book(draw, most, days, amounts):
    """A book of up to so many lines, drawn."""
    row_ids = draw.sample(range(1, 2 * most + 1), draw.randint(0, most))
    return [(row_id, draw.randint(0, days), draw.choice(amounts)) for row_id in row_ids]


def drawn_books(seed, number, most=4):
    """So many pairs of small books: one or more amounts, near and equal days, and the same ids in both books."""
    draw = random.Random(seed)
    for _ in range(number):
        days, amounts = draw.choice([1, 3, 6, 9, 40]), draw.choice([[5], [5], [5, -5], [5, -5, 7]])
        yield drawn_book(draw, most, days, amounts), drawn_book(draw, most, days, amounts)


def full_book(draw, number, days, amounts):
    """A book of so many lines of each of the amounts, drawn, in any sequence."""
    row_ids = draw.sample(range(1, 2 * number * len(amounts) + 1), number * len(amounts))
    lines = [(row_id, draw.randint(0, days), amounts[at % len(amounts)]) for at, row_id in enumerate(row_ids)]
    draw.shuffle(lines)
    return lines


def edge_books():
    """Books that the document names or that lie at its edges."""
    same_day = [(1, 7, 5), (2, 7, 5), (3, 7, 5)]
    return [
        ([], []), ([], [(1, 0, 5)]), ([(1, 0, 5)], []), ([(1, 0, 5)], [(1, 0, -5)]), ([(1, 0, 5)], [(1, 0, 5)]),
        (EXAMPLE_OWN, EXAMPLE_OTHER), (EXAMPLE_OTHER, EXAMPLE_OWN), (same_day, same_day), (same_day, same_day[:1]),
        (same_day, [(1, 6, 5), (2, 8, 5)]), ([(1, 6, 5), (2, 8, 5)], same_day), ([(3, 0, 5)], [(3, 10 ** 6, 5)]),
        ([(1, 0, 5), (2, 9, 6)], [(1, 2, 6), (2, 2, 5)]), ([(1, 3, 5)], [(1, 1, 5), (2, 5, 5)]),
        ([(1, 0, 5), (2, 1, 5), (3, 2, 5)], [(1, 0, 5), (2, 1, 5), (3, 2, 5)]),
        ([(10 ** 6, 10 ** 6, -10 ** 12)], [(10 ** 6, 0, -10 ** 12), (1, 10 ** 6, 10 ** 12)]),
        ([(1, 0, 5), (2, 10, 5), (3, 20, 5)], [(1, 10, 5), (2, 20, 5), (3, 30, 5)]),
        ([(1, 5, 5), (2, 5, 5)], [(1, 5, 5), (2, 9, 5), (3, 1, 5)]),
    ]


def prices_around(days):
    """Prices below, at and above some days, and those at the bounds."""
    near = [number + more for number in days for more in (-1, 0, 1)]
    return sorted({price for price in near + [0, 1, 2, MOST_PRICE] if price >= 0})


def no_numbers():
    """Values that are not a number of anything, whatever it is."""
    return [
        True, False, None, -1, -2, 10 ** 29, -10 ** 29, "", "0", "1", "one\ntwo", (), (0,), (1,), (1, 2), [], [0], [1],
        [[1]], {}, {0: 1}, {1: 1}, {"number": 1}, [None], (True,), [{(1, 2): [3]}],
    ]


def plain_bests(own_lines, other_lines, places):
    """For lines of one amount the best (cost, lines as a number) of 0, 1, 2, .. pairs, without trying all matchings.

    Some matching of least cost has no crossing pairs, so the last lines by day are paired, or one of them is left out.
    The number has a digit for each line, a higher one for a later line: of two such numbers the lesser is the better.
    """
    own_lines = sorted(own_lines, key=lambda line: line[1])
    other_lines = sorted(other_lines, key=lambda line: line[1])
    rows = [[[(0, 0)] for _ in range(len(other_lines) + 1)] for _ in range(len(own_lines) + 1)]
    for at, line in enumerate(own_lines, start=1):
        for by, after in enumerate(other_lines, start=1):
            apart = abs(line[1] - after[1])
            digits = places[line[1], 0, line[0]] + places[after[1], 1, after[0]]
            paired = [None] + [(cost + apart, number + digits) for cost, number in rows[at - 1][by - 1]]
            told = []
            for choices in itertools.zip_longest(rows[at - 1][by], rows[at][by - 1], paired):
                told.append(min(choice for choice in choices if choice is not None))
            rows[at][by] = told
    return rows[-1][-1]


def plain_bests_of_books(own, other):
    """The best (cost, lines as a number) of 0, 1, 2, .. pairs of two books, of any number of amounts."""
    places = {row: 2 ** at for at, row in enumerate(plain_sequence(own, other))}
    total = [(0, 0)]
    for amount in sorted({line[2] for line in own}):
        own_lines = [line for line in own if line[2] == amount]
        bests = plain_bests(own_lines, [line for line in other if line[2] == amount], places)
        joint = [[] for _ in range(len(total) + len(bests) - 1)]
        for (at, before), (by, more) in itertools.product(enumerate(total), enumerate(bests)):
            joint[at + by].append((before[0] + more[0], before[1] + more[1]))
        total = [min(choices) for choices in joint]
    return total, places


def nested(value, depth, wrap):
    for _ in range(depth):
        value = wrap(value)
    return value


def any_values():
    """Values of every kind that is meant by "any value", none of them a line, a book or a price."""
    return [
        None, True, False, -1, -10 ** 29, 10 ** 29, "", "0", "1", "abc", "1 0 100", "\n", " ~",
        (), (1,), (1, 0), (None, None, None), ("", "", ""), ("1", "0", "100"), ((1, 0, 100),), ((1, 0, 100),) * 3,
        [1], [1, 0, 100], [[]], [()], [None], ["a", "b", "c"], [[1, 0, 100]],
        {}, {1: 0}, {1: 2, 2: 3, 3: 4}, {"id": 1, "day": 0, "amount": 100}, {(1, 0, 100): True}, {1: (1, 0, 100)},
        nested(1, 30, lambda value: (value,)),
        nested(1, 30, lambda value: [value]),
        nested(1, 30, lambda value: {"a": value}),
        nested((1, 0, 100), 29, lambda value: [value]),
    ]


def wrong_integers():
    """Values that are no integer."""
    return [True, False, None, "", "1", "100", (), (1,), [], [1], {}, {1: 1}]


def check_interface(test, module, parameters):
    """That these functions are defined in this module itself, with these parameters by name."""
    for name in parameters:
        told = getattr(module, name)
        test.assertEqual((told.__module__, told.__name__), (module.__name__, name))
        test.assertEqual(list(inspect.signature(told).parameters), parameters[name])


def check_raises(test, expected, value, call, *rest, **more):
    """That a call raises just this error, and that it keeps this value, which is the value itself where it was given."""
    with test.assertRaises(MatchError) as caught:
        call(*rest, **more)
    test.assertIs(type(caught.exception), expected, (rest, more))
    (kept,) = vars(caught.exception).values()
    test.assertEqual((type(kept), kept), (type(value), value), (rest, more))
    given = [*rest, *more.values()]
    told = [(kept, value)] + (list(zip(kept, value)) if isinstance(value, tuple) else [])
    for part, expected_part in told:
        if any(expected_part is one for one in given):
            test.assertIs(part, expected_part, (rest, more))

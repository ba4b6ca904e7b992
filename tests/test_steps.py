"""Steps, best matchings, their costs, and numbers of pairs that are not possible."""

import copy
import inspect
import itertools
import random
import unittest

import trying
from matchlines import steps as module
from matchlines.errors import BadNumber, MatchError
from matchlines.steps import best_matching, costs, least_cost, steps

PARAMETERS = {
    "steps": ["own", "other"],
    "best_matching": ["own", "other", "number"],
    "least_cost": ["own", "other", "number"],
    "costs": ["own", "other"],
}


def drawn_matching(draw, own, other, number):
    """A matching of so many pairs, drawn, or None if it did not come about."""
    rows = [(line[0], after[0]) for line in own for after in other if line[2] == after[2]]
    draw.shuffle(rows)
    own_taken, other_taken, pairs = set(), set(), []
    for own_id, other_id in rows:
        if len(pairs) < number and own_id not in own_taken and other_id not in other_taken:
            own_taken.add(own_id)
            other_taken.add(other_id)
            pairs.append((own_id, other_id))
    return sorted(pairs) if len(pairs) == number else None


class InterfaceTest(unittest.TestCase):
    def test_functions_are_defined_here_with_the_names_shown(self):
        for name, parameters in PARAMETERS.items():
            with self.subTest(name):
                told = getattr(module, name)
                self.assertEqual((told.__module__, told.__name__), ("matchlines.steps", name))
                self.assertEqual(list(inspect.signature(told).parameters), parameters)

    def test_arguments_by_name(self):
        own, other = trying.EXAMPLE_OWN, trying.EXAMPLE_OTHER
        self.assertEqual(steps(other=other, own=own), [(1, 2, 1), (3, 1, 2)])
        self.assertEqual(best_matching(number=1, other=other, own=own), [(2, 1)])
        self.assertEqual(least_cost(number=2, other=other, own=own), 4)
        self.assertEqual(list(costs(other=other, own=own)), [0, 1, 4])

    def test_costs_are_yielded(self):
        told = costs(trying.EXAMPLE_OWN, trying.EXAMPLE_OTHER)
        self.assertIs(iter(told), told)
        self.assertEqual([next(told), next(told), next(told), next(told, None)], [0, 1, 4, None])


class SmallBooksTest(unittest.TestCase):
    """Against all matchings."""

    def check(self, own, other):
        matchings = trying.all_matchings(own, other)
        told = steps(own, other)
        most = max(len(pairs) for pairs in matchings)
        self.assertEqual(len(told), most, (own, other))
        bests = [trying.best_of_all(own, other, matchings, number) for number in range(most + 1)]
        least = [trying.plain_cost(own, other, pairs) for pairs in bests]
        for number, pairs in enumerate(bests):
            self.assertEqual(best_matching(own, other, number), pairs, (own, other))
            self.assertEqual(least_cost(own, other, number), least[number], (own, other))
        self.assertEqual(list(costs(own, other)), least, (own, other))
        expected = []
        for number in range(1, most + 1):
            before, after = [[set(ids) for ids in zip(*pairs)] or [set(), set()] for pairs in bests[number - 1:number + 1]]
            self.assertTrue(before[0] < after[0] and before[1] < after[1], (own, other))
            (own_id,), (other_id,) = after[0] - before[0], after[1] - before[1]
            expected.append((least[number] - least[number - 1], own_id, other_id))
        self.assertEqual(told, expected, (own, other))
        self.assertEqual([step[0] for step in told], sorted(step[0] for step in told), (own, other))

    def test_edges(self):
        for own, other in trying.edge_books():
            self.check(own, other)

    def test_all_days_of_three_lines_each(self):
        for days in itertools.product((0, 1, 3), repeat=6):
            self.check(list(zip((2, 1, 3), days[:3], (5,) * 3)), list(zip((1, 3, 2), days[3:], (5,) * 3)))

    def test_all_days_of_two_amounts(self):
        for days in itertools.product((0, 2, 3), repeat=6):
            own = [(1, days[0], 5), (2, days[1], -5), (3, days[2], 5)]
            self.check(own, [(1, days[3], -5), (2, days[4], 5), (3, days[5], 5)])

    def test_drawn_books(self):
        for own, other in trying.drawn_books(6, 500):
            self.check(own, other)


class TiesTest(unittest.TestCase):
    """Of equal cost the matching is better that does not have the last line which is in just one of them."""

    def test_earlier_day(self):
        self.assertEqual(steps([(1, 3, 5)], [(1, 5, 5), (2, 1, 5)]), [(2, 1, 2)])
        self.assertEqual(steps([(1, 5, 5), (2, 1, 5)], [(1, 3, 5)]), [(2, 2, 1)])

    def test_lesser_id_on_the_same_day(self):
        self.assertEqual(steps([(1, 3, 5)], [(9, 5, 5), (10, 5, 5), (2, 9, 5)]), [(2, 1, 9)])
        self.assertEqual(steps([(12, 3, 5), (3, 3, 5), (4, 3, 5)], [(1, 5, 5)]), [(2, 3, 1)])

    def test_days_and_ids_as_numbers(self):
        self.assertEqual(steps([(1, 9, 5), (2, 10, 5)], [(7, 9, 5), (8, 10, 5)]), [(0, 1, 7), (0, 2, 8)])
        self.assertEqual(steps([(1, 50, 5)], [(1, 100, 5), (2, 0, 5)]), [(50, 1, 2)])

    def test_own_line_before_one_of_the_other_book(self):
        # Both pairs end on the day 5, the one of 5 with an own line, the one of -5 with a line of the other book.
        own, other = [(9, 5, 5), (1, 3, -5)], [(1, 3, 5), (2, 5, -5)]
        self.assertEqual(steps(own, other), [(2, 9, 1), (2, 1, 2)])

    def test_between_amounts_the_last_line_is_looked_at_first(self):
        # The pair of -5 has the first line of all four, but also the last one.
        own, other = [(1, 0, -5), (9, 0, 5)], [(1, 5, 5), (2, 5, -5)]
        self.assertEqual(steps(own, other), [(5, 9, 1), (5, 1, 2)])

    def test_amounts_mean_nothing(self):
        own, other = [(1, 4, -5), (2, 3, 5)], [(1, 4, -5), (2, 3, 5)]
        self.assertEqual(steps(own, other), [(0, 2, 2), (0, 1, 1)])
        own, other = [(1, 0, -5), (2, 1, 5)], [(1, 5, -5), (2, 6, 5)]
        self.assertEqual(steps(own, other), [(5, 1, 1), (5, 2, 2)])

    def test_same_last_line(self):
        self.assertEqual(steps([(3, 4, 5), (2, 4, 5), (1, 0, 5)], [(1, 6, 5)]), [(2, 2, 1)])
        self.assertEqual(steps([(1, 6, 5)], [(3, 4, 5), (2, 4, 5), (1, 0, 5)]), [(2, 1, 2)])

    def test_cost_before_lines(self):
        self.assertEqual(steps([(9, 99, 5), (1, 0, 5)], [(9, 99, 5), (1, 1, 5)]), [(0, 9, 9), (1, 1, 1)])


class JoinTest(unittest.TestCase):
    def test_lines_that_join_are_not_always_a_pair(self):
        own, other = [(1, 0, 5), (2, 10, 5)], [(1, 8, 5), (2, 14, 5)]
        self.assertEqual(steps(own, other), [(2, 2, 1), (10, 1, 2)])
        self.assertEqual(best_matching(own, other, 1), [(2, 1)])
        self.assertEqual(best_matching(own, other, 2), [(1, 1), (2, 2)])

    def test_in_sequence_on_the_same_days(self):
        own, other = [(2, 7, 5), (1, 7, 5)], [(4, 7, 5), (3, 7, 5)]
        self.assertEqual(best_matching(own, other, 2), [(1, 3), (2, 4)])

    def test_sorted_by_own_ids(self):
        own, other = [(10, 0, 5), (9, 50, 5), (2, 99, -5)], [(1, 0, 5), (2, 50, 5), (3, 99, -5)]
        self.assertEqual(best_matching(own, other, 3), [(2, 3), (9, 2), (10, 1)])

    def test_books_in_any_sequence(self):
        own, other = [(1, 4, 5), (2, 0, 5), (3, 2, 5)], [(1, 3, 5), (2, 1, 5), (3, 9, 5)]
        told = steps(own, other)
        for rows in itertools.permutations(own):
            for others in itertools.permutations(other):
                self.assertEqual(steps(list(rows), list(others)), told)

    def test_no_common_amount(self):
        own, other = [(1, 0, 5), (2, 0, 6)], [(1, 0, -5), (2, 0, 7)]
        self.assertEqual([steps(own, other), best_matching(own, other, 0), list(costs(own, other))], [[], [], [0]])

    def test_empty_books(self):
        for own, other in [([], []), ([(1, 0, 5)], []), ([], [(1, 0, 5)])]:
            self.assertEqual([steps(own, other), best_matching(own, other, 0), least_cost(own, other, 0)], [[], [], 0])
            self.assertEqual(list(costs(own, other)), [0])


class LargerBooksTest(unittest.TestCase):
    def check(self, own, other, draw):
        told = steps(own, other)
        bests, places = trying.plain_bests_of_books(own, other)
        self.assertEqual(list(costs(own, other)), [cost for cost, _ in bests])
        self.assertEqual(list(costs(own, other)), list(itertools.accumulate([step[0] for step in told], initial=0)))
        self.assertEqual([step[0] for step in told], sorted(step[0] for step in told))
        for number, (least, lines) in enumerate(bests):
            pairs = best_matching(own, other, number)
            self.check_matching(own, other, pairs, number)
            self.assertEqual(trying.plain_cost(own, other, pairs), least)
            self.assertEqual(least_cost(own, other, number), least)
            self.assertEqual(sum(places[row] for row in trying.lines_in(own, other, pairs)), lines)
            self.assertTrue(trying.sequential(own, other, pairs))
            self.assertEqual(sorted(step[1] for step in told[:number]), [pair[0] for pair in pairs])
            self.assertEqual(sorted(step[2] for step in told[:number]), sorted(pair[1] for pair in pairs))
            for _ in range(3):
                drawn = drawn_matching(draw, own, other, number)
                if drawn is not None:
                    self.assertLessEqual(least, trying.plain_cost(own, other, drawn))

    def check_matching(self, own, other, pairs, number):
        own_lines, other_lines = trying.by_ids(own), trying.by_ids(other)
        self.assertEqual([len(pairs), len({pair[0] for pair in pairs}), len({pair[1] for pair in pairs})], [number] * 3)
        self.assertEqual(pairs, sorted(pairs))
        for own_id, other_id in pairs:
            self.assertEqual(own_lines[own_id][2], other_lines[other_id][2])

    def test_up_to_ten_lines_each(self):
        draw = random.Random(60)
        for own, other in trying.drawn_books(61, 60, most=10):
            self.check(own, other, draw)

    def test_thirty_lines_each_of_two_amounts(self):
        draw = random.Random(62)
        for days in (8, 60, 10 ** 6):
            own, other = [trying.full_book(draw, 30, days, [10 ** 12, -7]) for _ in range(2)]
            self.assertEqual(len(steps(own, other)), 60)
            self.check(own, other, draw)

    def test_one_book_much_longer(self):
        draw = random.Random(63)
        own, other = trying.full_book(draw, 40, 30, [5]), trying.full_book(draw, 6, 30, [5])
        self.check(own, other, draw)
        self.check(other, own, draw)

    def test_long_books(self):
        own = [(row_id, row_id, 5) for row_id in range(1, 301)]
        other = [(row_id, row_id + 400, 5) for row_id in range(1, 301)]
        self.assertEqual(steps(own, other)[:2], [(101, 300, 1), (103, 299, 2)])
        self.assertEqual(least_cost(own, other, 300), 300 * 400)


class BadNumberTest(unittest.TestCase):
    def check(self, own, other, value):
        before = repr(value)
        for told in (best_matching, least_cost):
            with self.assertRaises(BadNumber) as context:
                told(own, other, value)
            self.assertIs(context.exception.value, value)
            self.assertIsInstance(context.exception, MatchError)
        self.assertEqual(repr(value), before)

    def test_any_value(self):
        for value in trying.no_numbers():
            self.check(trying.EXAMPLE_OWN, trying.EXAMPLE_OTHER, value)
            self.check([], [], value)

    def test_one_too_many(self):
        for own, other in trying.edge_books():
            most = len(steps(own, other))
            self.assertEqual(len(best_matching(own, other, most)), most)
            self.check(own, other, most + 1)
            self.check(own, other, -1)

    def test_each_amount_has_its_own_bound(self):
        own, other = [(1, 0, 5), (2, 0, 5), (3, 0, -5)], [(1, 0, 5), (2, 0, -5), (3, 0, -5)]
        self.assertEqual(len(best_matching(own, other, 2)), 2)
        self.check(own, other, 3)

    def test_value_is_not_a_copy(self):
        value = [1]
        with self.assertRaises(BadNumber) as context:
            least_cost([], [], number=value)
        value.append(2)
        self.assertEqual(context.exception.value, [1, 2])


class UnchangedTest(unittest.TestCase):
    def test_arguments_stay_and_answers_are_new(self):
        for own, other in trying.edge_books():
            kept = copy.deepcopy((own, other))
            told, pairs = steps(own, other), best_matching(own, other, 0)
            again = copy.deepcopy((told, pairs))
            list(costs(own, other)), least_cost(own, other, 0)
            told.append("more"), pairs.append("more")
            self.assertEqual((own, other), kept)
            self.assertEqual((steps(own, other), best_matching(own, other, 0)), again)

    def test_kinds(self):
        told = steps(trying.EXAMPLE_OWN, trying.EXAMPLE_OTHER)
        pairs = best_matching(trying.EXAMPLE_OWN, trying.EXAMPLE_OTHER, 2)
        self.assertEqual([type(told), type(pairs)], [list, list])
        self.assertEqual({type(row) for row in told + pairs}, {tuple})
        numbers = [number for row in told + pairs for number in row] + list(costs([(1, 0, 5)], [(1, 0, 5)]))
        self.assertEqual({type(number) for number in numbers}, {int})


if __name__ == "__main__":
    unittest.main()

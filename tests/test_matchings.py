"""Possible pairs, matchings, their cost and worth, and lines that are paired in sequence."""

import copy
import inspect
import itertools
import unittest

import trying
from matchlines import matchings
from matchlines.errors import MatchError, Unpaired
from matchlines.matchings import (
    can_be_paired, cost_of, days_apart, in_sequence, is_matching, is_possible, worth_of,
)

PARAMETERS = {
    "days_apart": ["own_line", "other_line"],
    "is_possible": ["own", "other", "pair"],
    "is_matching": ["own", "other", "value"],
    "cost_of": ["own", "other", "pairs"],
    "worth_of": ["own", "other", "pairs", "price"],
    "can_be_paired": ["own", "other", "own_ids", "other_ids"],
    "in_sequence": ["own", "other", "own_ids", "other_ids"],
}

# Own ids, ids of the other book, days and amounts are told apart by their sizes.
OWN = [(3, 20, 100), (1, 24, 100), (2, 21, -50), (4, 30, 700)]
OTHER = [(12, 25, 100), (11, 23, 100), (13, 26, -50), (14, 30, 900), (15, 40, 100)]
POSSIBLE = [(own_id, other_id) for own_id in (1, 3) for other_id in (11, 12, 15)] + [(2, 13)]


def any_values():
    """Values of every kind that is meant by "any value", none of them a pair or a matching."""
    return [
        None, True, False, 0, 1, -1, 11, 10 ** 29, "", "ab", "1", "1 11", "\n",
        (), (1,), (11,), (1, 11, 100), (1, 11, 11), (None, None), ("1", "11"), ("", ""), ((1, 11),), ((1, 11), (3, 12)),
        [1], [1, 11], ["ab"], [[]], [()], [None], [[1, 11]], [[[1, 11]]], [1, 11, 3, 12],
        {}, {1: 11}, {1: True, 11: True}, {(1, 11): True}, {"own": 1, "other": 11},
        trying.nested((1, 11), 29, lambda value: (value,)),
        trying.nested((1, 11), 29, lambda value: [value]),
        trying.nested((1, 11), 29, lambda value: {"a": value}),
    ]


def wrong_ids():
    """Values that are no id at all."""
    return [True, False, None, "", "1", "11", (), (1,), (1, 11), [], [1], [11], {}, {1: 1}, -1, 0, 10 ** 29]


def matchings_of_lines(own, other, own_ids, other_ids):
    """All matchings of these lines, each as a sorted list of pairs, found by trying all sequences."""
    for row in itertools.permutations(other_ids):
        pairs = sorted(zip(own_ids, row))
        amounts = {"own": {line[0]: line[2] for line in own}, "other": {line[0]: line[2] for line in other}}
        if all(amounts["own"][own_id] == amounts["other"][other_id] for own_id, other_id in pairs):
            yield pairs


def plain_cost(own, other, pairs):
    """The cost of pairs, worked out apart from the program."""
    total = 0
    for own_id, other_id in pairs:
        own_day = [line[1] for line in own if line[0] == own_id][0]
        other_day = [line[1] for line in other if line[0] == other_id][0]
        total += max(own_day, other_day) - min(own_day, other_day)
    return total


class InterfaceTest(unittest.TestCase):
    def test_functions_are_defined_here_with_the_names_shown(self):
        for name, parameters in PARAMETERS.items():
            with self.subTest(name):
                told = getattr(matchings, name)
                self.assertEqual((told.__module__, told.__name__), ("matchlines.matchings", name))
                self.assertEqual(list(inspect.signature(told).parameters), parameters)

    def test_arguments_by_name(self):
        self.assertEqual(days_apart(other_line=(1, 9, 5), own_line=(1, 2, 5)), 7)
        self.assertIs(is_possible(pair=(1, 11), other=OTHER, own=OWN), True)
        self.assertIs(is_matching(value=[(1, 11)], other=OTHER, own=OWN), True)
        self.assertEqual(cost_of(pairs=[(3, 12)], other=OTHER, own=OWN), 5)
        self.assertEqual(worth_of(price=9, pairs=[(3, 12)], other=OTHER, own=OWN), 4)
        self.assertIs(can_be_paired(other_ids=[11], own_ids=[1], other=OTHER, own=OWN), True)
        self.assertEqual(in_sequence(other_ids=[11], own_ids=[1], other=OTHER, own=OWN), [(1, 11)])


class DaysApartTest(unittest.TestCase):
    def test_both_ways(self):
        self.assertEqual(days_apart((1, 4, 100), (2, 9, 100)), 5)
        self.assertEqual(days_apart((1, 9, 100), (2, 4, 100)), 5)

    def test_same_day(self):
        self.assertEqual(days_apart((1, 4, 100), (2, 4, 100)), 0)

    def test_bounds(self):
        self.assertEqual(days_apart((1, 0, 100), (1, 10 ** 6, 100)), 10 ** 6)
        self.assertEqual(days_apart((1, 10 ** 6, 100), (1, 0, 100)), 10 ** 6)

    def test_different_amounts(self):
        self.assertEqual(days_apart((1, 4, 100), (2, 9, -3)), 5)
        self.assertEqual(days_apart((8, 9, -10 ** 12), (2, 4, 10 ** 12)), 5)


class IsPossibleTest(unittest.TestCase):
    def test_exactly_the_possible_pairs(self):
        for pair in itertools.product(range(-1, 20), range(-1, 20)):
            self.assertIs(is_possible(OWN, OTHER, pair), pair in POSSIBLE, pair)

    def test_different_amounts(self):
        self.assertIs(is_possible(OWN, OTHER, (4, 14)), False)
        self.assertIs(is_possible([(1, 0, 5)], [(1, 0, -5)], (1, 1)), False)

    def test_same_ids_in_both_books(self):
        own, other = [(1, 0, 5), (2, 9, 6)], [(1, 3, 6), (2, 9, 5)]
        told = [is_possible(own, other, pair) for pair in [(1, 1), (1, 2), (2, 1), (2, 2)]]
        self.assertEqual(told, [False, True, True, False])

    def test_days_mean_nothing(self):
        self.assertIs(is_possible([(1, 0, 5)], [(1, 10 ** 6, 5)], (1, 1)), True)

    def test_empty_books(self):
        self.assertIs(is_possible([], [], (1, 1)), False)
        self.assertIs(is_possible(OWN, [], (1, 1)), False)
        self.assertIs(is_possible([], OTHER, (11, 11)), False)

    def test_no_id_in_one_place(self):
        own, other = [(1, 0, 5)], [(1, 0, 5)]
        self.assertIs(is_possible(own, other, (1, 1)), True)
        for value in wrong_ids():
            self.assertIs(is_possible(own, other, (value, 1)), False, value)
            self.assertIs(is_possible(own, other, (1, value)), False, value)
            self.assertIs(is_possible(own, other, (value, value)), False, value)

    def test_wrong_kind_or_length(self):
        own, other = [(1, 0, 5)], [(1, 0, 5)]
        for value in [[1, 1], (1,), (1, 1, 1), {1: 1}, "11", (), 1, [(1, 1)], ((1, 1),), ((1, 1), (1, 1))]:
            self.assertIs(is_possible(own, other, value), False, value)

    def test_any_value(self):
        for value in any_values():
            self.assertIs(is_possible(OWN, OTHER, value), False, value)


class IsMatchingTest(unittest.TestCase):
    def test_matchings(self):
        for value in [[], [(1, 11)], [(2, 13)], [(1, 12), (3, 11)], [(1, 11), (2, 13), (3, 15)], [(1, 15), (3, 11)]]:
            self.assertIs(is_matching(OWN, OTHER, value), True, value)

    def test_exactly_the_sorted_lists_without_a_line_in_two_pairs(self):
        for number in range(4):
            for row in itertools.product(POSSIBLE, repeat=number):
                ids = [[pair[side] for pair in row] for side in (0, 1)]
                right = ids[0] == sorted(set(ids[0])) and len(set(ids[1])) == number
                self.assertIs(is_matching(OWN, OTHER, list(row)), right, row)

    def test_unsorted(self):
        self.assertIs(is_matching(OWN, OTHER, [(3, 11), (1, 12)]), False)
        self.assertIs(is_matching(OWN, OTHER, [(1, 12), (3, 11), (2, 13)]), False)

    def test_sorted_as_numbers(self):
        own, other = [(10, 0, 5), (9, 0, 5)], [(1, 0, 5), (2, 0, 5)]
        self.assertIs(is_matching(own, other, [(9, 2), (10, 1)]), True)
        self.assertIs(is_matching(own, other, [(10, 1), (9, 2)]), False)

    def test_line_in_two_pairs(self):
        self.assertIs(is_matching(OWN, OTHER, [(1, 11), (1, 12)]), False)
        self.assertIs(is_matching(OWN, OTHER, [(1, 11), (3, 11)]), False)
        self.assertIs(is_matching(OWN, OTHER, [(1, 11), (1, 11)]), False)
        self.assertIs(is_matching(OWN, OTHER, [(1, 11), (2, 13), (3, 11)]), False)

    def test_one_pair_is_not_possible(self):
        for pair in [(1, 13), (4, 14), (5, 11), (2, 99), (11, 1), (0, 11), (1, -1), (1, True), (True, 11), [2, 13], None]:
            self.assertIs(is_matching(OWN, OTHER, [pair]), False, pair)
            self.assertIs(is_matching(OWN, OTHER, [pair, (3, 12)]), False, pair)
            self.assertIs(is_matching(OWN, OTHER, [(1, 12), pair]), False, pair)

    def test_bools_in_the_place_of_ids(self):
        own, other = [(1, 0, 5)], [(1, 0, 5)]
        self.assertIs(is_matching(own, other, [(1, 1)]), True)
        self.assertIs(is_matching(own, other, [(True, 1)]), False)
        self.assertIs(is_matching(own, other, [(1, True)]), False)

    def test_wrong_kind(self):
        for value in [(), ((1, 11),), ((1, 11), (3, 12)), {}, {(1, 11): True}, {1: 11}, (1, 11), [1, 11], "", None, True, 0]:
            self.assertIs(is_matching(OWN, OTHER, value), False, value)

    def test_no_id_in_one_place(self):
        own, other = [(1, 0, 5)], [(1, 0, 5)]
        for value in wrong_ids():
            self.assertIs(is_matching(own, other, [(value, 1)]), False, value)
            self.assertIs(is_matching(own, other, [(1, value)]), False, value)

    def test_any_value(self):
        for value in any_values():
            self.assertIs(is_matching(OWN, OTHER, value), False, value)
            self.assertIs(is_matching(OWN, OTHER, [value]), False, value)
            self.assertIs(is_matching(OWN, OTHER, [(1, 11), value]), False, value)

    def test_empty_books(self):
        self.assertIs(is_matching([], [], []), True)
        self.assertIs(is_matching([], [], [(1, 1)]), False)
        self.assertIs(is_matching(OWN, [], [(1, 11)]), False)
        self.assertIs(is_matching([], OTHER, [(1, 11)]), False)


class UnchangedTest(unittest.TestCase):
    def test_what_is_asked_stays_as_it_was(self):
        unsorted = [[(3, 11), (1, 12)], [(1, 12), (3, 11), (1, 12)], [(3, 12), [1, 11]]]
        for value in any_values() + unsorted:
            own, other, before = copy.deepcopy((OWN, OTHER, value))
            is_possible(own, other, value), is_matching(own, other, value)
            self.assertEqual((own, other), (OWN, OTHER))
            self.assertEqual(repr(value), repr(before))


class CostAndWorthTest(unittest.TestCase):
    def test_cost(self):
        self.assertEqual(cost_of(OWN, OTHER, [(1, 11)]), 1)
        self.assertEqual(cost_of(OWN, OTHER, [(1, 12)]), 1)
        self.assertEqual(cost_of(OWN, OTHER, [(1, 12), (3, 11)]), 4)
        self.assertEqual(cost_of(OWN, OTHER, [(1, 11), (2, 13), (3, 15)]), 1 + 5 + 20)

    def test_cost_of_same_ids_in_both_books(self):
        own, other = [(1, 0, 5), (2, 10, 5)], [(1, 100, 5), (2, 1000, 5)]
        self.assertEqual(cost_of(own, other, [(1, 2), (2, 1)]), 1000 + 90)
        self.assertEqual(cost_of(own, other, [(2, 2)]), 990)

    def test_empty_matching(self):
        for own, other in [([], []), (OWN, OTHER)]:
            self.assertEqual(cost_of(own, other, []), 0)
            for price in (0, 7, 10 ** 12):
                self.assertEqual(worth_of(own, other, [], price), 0)

    def test_worth(self):
        pairs = [(1, 11), (2, 13), (3, 15)]
        self.assertEqual(worth_of(OWN, OTHER, pairs, 0), -26)
        self.assertEqual(worth_of(OWN, OTHER, pairs, 8), -2)
        self.assertEqual(worth_of(OWN, OTHER, pairs, 9), 1)
        self.assertEqual(worth_of(OWN, OTHER, pairs, 10 ** 12), 3 * 10 ** 12 - 26)

    def test_no_days_apart(self):
        own, other = [(1, 5, 5), (2, 5, 5)], [(1, 5, 5), (2, 5, 5)]
        self.assertEqual(cost_of(own, other, [(1, 2), (2, 1)]), 0)
        self.assertEqual(worth_of(own, other, [(1, 2), (2, 1)], 3), 6)
        self.assertEqual(worth_of(own, other, [(1, 2), (2, 1)], 0), 0)

    def test_nothing_changed(self):
        own, other, pairs = copy.deepcopy((OWN, OTHER, [(1, 12), (3, 11)]))
        cost_of(own, other, pairs), worth_of(own, other, pairs, 3)
        self.assertEqual((own, other, pairs), (OWN, OTHER, [(1, 12), (3, 11)]))


class CanBePairedTest(unittest.TestCase):
    def test_as_many_of_every_amount(self):
        for own_ids, other_ids in [([], []), ([1], [15]), ([3, 1], [15, 11]), ([2], [13]), ([2, 3, 1], [11, 13, 12])]:
            self.assertIs(can_be_paired(OWN, OTHER, own_ids, other_ids), True, (own_ids, other_ids))

    def test_not_as_many(self):
        for own_ids, other_ids in [
            ([1], []), ([], [11]), ([1, 3], [11]), ([1], [11, 12]), ([1, 2], [11, 12]), ([2, 1], [13, 14]),
            ([4], [14]), ([1, 3, 2], [11, 12]), ([1, 3], [11, 12, 13]), ([1, 4], [11, 14]), ([2, 4], [13, 11]),
        ]:
            self.assertIs(can_be_paired(OWN, OTHER, own_ids, other_ids), False, (own_ids, other_ids))

    def test_all_choices(self):
        own = [(1, 0, 5), (2, 3, 5), (3, 1, 6), (4, 2, -5)]
        other = [(1, 2, 5), (2, 0, 6), (3, 1, 6), (4, 2, -5)]
        for own_ids in choices([1, 2, 3, 4]):
            for other_ids in choices([1, 2, 3, 4]):
                amounts = [sorted(line[2] for line in book if line[0] in ids) for book, ids in [(own, own_ids), (other, other_ids)]]
                self.assertIs(can_be_paired(own, other, own_ids, other_ids), amounts[0] == amounts[1])

    def test_nothing_changed(self):
        own, other, own_ids, other_ids = copy.deepcopy((OWN, OTHER, [3, 1], [12, 11]))
        can_be_paired(own, other, own_ids, other_ids)
        self.assertEqual((own, other, own_ids, other_ids), (OWN, OTHER, [3, 1], [12, 11]))


def choices(row_ids):
    """All lists of some of the ids, in the sequence in which they are given."""
    return [list(row) for number in range(len(row_ids) + 1) for row in itertools.combinations(row_ids, number)]


class InSequenceTest(unittest.TestCase):
    def test_by_day(self):
        own = [(1, 30, 5), (2, 20, 5), (3, 10, 5)]
        other = [(11, 12, 5), (12, 32, 5), (13, 22, 5)]
        self.assertEqual(in_sequence(own, other, [1, 2, 3], [11, 12, 13]), [(1, 12), (2, 13), (3, 11)])

    def test_days_as_numbers(self):
        own, other = [(1, 9, 5), (2, 10, 5)], [(1, 100, 5), (2, 20, 5)]
        self.assertEqual(in_sequence(own, other, [1, 2], [1, 2]), [(1, 2), (2, 1)])

    def test_same_day_by_id(self):
        own = [(10, 7, 5), (9, 7, 5), (2, 7, 5)]
        other = [(8, 7, 5), (30, 7, 5), (4, 7, 5)]
        self.assertEqual(in_sequence(own, other, [10, 2, 9], [30, 4, 8]), [(2, 4), (9, 8), (10, 30)])

    def test_day_before_id(self):
        own, other = [(1, 8, 5), (2, 7, 5)], [(1, 7, 5), (2, 7, 5)]
        self.assertEqual(in_sequence(own, other, [1, 2], [1, 2]), [(1, 2), (2, 1)])
        self.assertEqual(in_sequence(other, own, [1, 2], [1, 2]), [(1, 2), (2, 1)])

    def test_ids_in_any_order(self):
        own = [(1, 30, 5), (2, 20, 5), (3, 10, 6), (4, 7, 5)]
        other = [(11, 12, 5), (12, 32, 6), (13, 22, 5), (14, 22, 5)]
        expected = [(1, 14), (2, 13), (3, 12), (4, 11)]
        for own_ids in itertools.permutations([1, 2, 3, 4]):
            for other_ids in itertools.permutations([11, 12, 13, 14]):
                self.assertEqual(in_sequence(own, other, list(own_ids), list(other_ids)), expected)
                self.assertEqual(in_sequence(own[::-1], other[::-1], list(own_ids), list(other_ids)), expected)

    def test_several_amounts(self):
        own = [(1, 5, 9), (2, 1, -9), (3, 3, 9), (4, 2, -9), (5, 0, 2)]
        other = [(1, 1, 9), (2, 2, 9), (3, 9, -9), (4, 0, 2), (5, 8, -9)]
        expected = [(1, 2), (2, 5), (3, 1), (4, 3), (5, 4)]
        self.assertEqual(in_sequence(own, other, [1, 2, 3, 4, 5], [1, 2, 3, 4, 5]), expected)

    def test_only_the_lines_with_these_ids(self):
        self.assertEqual(in_sequence(OWN, OTHER, [1], [15]), [(1, 15)])
        self.assertEqual(in_sequence(OWN, OTHER, [1, 3], [15, 12]), [(1, 15), (3, 12)])
        self.assertEqual(in_sequence(OWN, OTHER, [2], [13]), [(2, 13)])

    def test_same_ids_in_both_books(self):
        own, other = [(1, 0, 5), (2, 4, 6)], [(1, 3, 6), (2, 5, 5)]
        self.assertEqual(in_sequence(own, other, [1, 2], [1, 2]), [(1, 2), (2, 1)])

    def test_sorted_by_own_ids(self):
        own = [(1, 9, 9), (2, 8, -9), (3, 7, 5), (4, 6, 9), (10, 0, 5)]
        other = [(5, 1, 9), (4, 2, -9), (3, 3, 5), (2, 4, 9), (1, 5, 5)]
        told = in_sequence(own, other, [10, 4, 3, 2, 1], [1, 2, 3, 4, 5])
        self.assertEqual(told, [(1, 2), (2, 4), (3, 1), (4, 5), (10, 3)])
        self.assertIs(is_matching(own, other, told), True)

    def test_empty(self):
        self.assertEqual(in_sequence([], [], [], []), [])
        self.assertEqual(in_sequence(OWN, OTHER, [], []), [])

    def test_new_and_nothing_changed(self):
        own, other, own_ids, other_ids = copy.deepcopy((OWN, OTHER, [3, 2, 1], [13, 12, 11]))
        first = in_sequence(own, other, own_ids, other_ids)
        self.assertIsInstance(first, list)
        self.assertEqual([type(pair) for pair in first], [tuple] * 3)
        first.clear()
        self.assertEqual(in_sequence(own, other, own_ids, other_ids), [(1, 12), (2, 13), (3, 11)])
        self.assertEqual((own, other, own_ids, other_ids), (OWN, OTHER, [3, 2, 1], [13, 12, 11]))


class UnpairedTest(unittest.TestCase):
    def amount_of_unpaired(self, own, other, own_ids, other_ids):
        before = copy.deepcopy((own, other, own_ids, other_ids))
        with self.assertRaises(Unpaired) as context:
            in_sequence(own, other, own_ids, other_ids)
        self.assertEqual((own, other, own_ids, other_ids), before)
        self.assertIsInstance(context.exception, MatchError)
        return context.exception.amount

    def test_more_own_lines(self):
        self.assertEqual(self.amount_of_unpaired(OWN, OTHER, [3, 1], [11]), 100)
        self.assertEqual(self.amount_of_unpaired(OWN, OTHER, [2], []), -50)

    def test_more_lines_of_the_other_book(self):
        self.assertEqual(self.amount_of_unpaired(OWN, OTHER, [3], [12, 11]), 100)
        self.assertEqual(self.amount_of_unpaired(OWN, OTHER, [], [14]), 900)

    def test_as_many_lines_in_all(self):
        self.assertEqual(self.amount_of_unpaired(OWN, OTHER, [4], [14]), 700)
        self.assertEqual(self.amount_of_unpaired(OTHER, OWN, [14], [4]), 700)
        self.assertEqual(self.amount_of_unpaired(OWN, OTHER, [1, 3], [11, 13]), -50)

    def test_least_amount_as_a_number(self):
        own = [(1, 0, 9), (2, 1, 10), (3, 2, -3), (4, 3, -20), (5, 4, 1)]
        self.assertEqual(self.amount_of_unpaired(own, [], [1, 2], []), 9)
        self.assertEqual(self.amount_of_unpaired(own, [], [2, 1], []), 9)
        self.assertEqual(self.amount_of_unpaired(own, [], [5, 3, 1], []), -3)
        self.assertEqual(self.amount_of_unpaired(own, [], [1, 2, 3, 4, 5], []), -20)
        self.assertEqual(self.amount_of_unpaired([], own, [], [1, 2, 3, 4, 5]), -20)

    def test_lesser_amounts_of_which_there_are_as_many(self):
        own = [(1, 0, -9), (2, 1, 10), (3, 2, 4)]
        other = [(1, 0, -9), (2, 1, 4), (3, 2, 12)]
        self.assertEqual(self.amount_of_unpaired(own, other, [1, 2, 3], [1, 2, 3]), 10)
        self.assertEqual(self.amount_of_unpaired(other, own, [1, 2, 3], [1, 2, 3]), 10)

    def test_exactly_where_the_lines_cannot_be_paired(self):
        own = [(1, 0, 5), (2, 3, 5), (3, 1, 6), (4, 2, -5)]
        other = [(1, 2, 5), (2, 0, 6), (3, 1, 6), (4, 2, -5)]
        for own_ids in choices([1, 2, 3, 4]):
            for other_ids in choices([1, 2, 3, 4]):
                counts = [[sum(line[2] == amount for line in book if line[0] in ids) for amount in (-5, 5, 6)]
                          for book, ids in [(own, own_ids), (other, other_ids)]]
                uneven = [amount for amount, one, two in zip((-5, 5, 6), *counts) if one != two]
                if uneven:
                    self.assertEqual(self.amount_of_unpaired(own, other, own_ids, other_ids), uneven[0])
                else:
                    self.assertEqual(len(in_sequence(own, other, own_ids, other_ids)), len(own_ids))


class LeastCostTest(unittest.TestCase):
    def check(self, own, other):
        own_ids, other_ids = [line[0] for line in own], [line[0] for line in other]
        told = in_sequence(own, other, own_ids, other_ids)
        cost = plain_cost(own, other, told)
        self.assertEqual(cost_of(own, other, told), cost)
        self.assertIs(is_matching(own, other, told), True)
        self.assertEqual(sorted(pair[0] for pair in told), sorted(own_ids))
        self.assertEqual(sorted(pair[1] for pair in told), sorted(other_ids))
        self.assertEqual(cost, min(plain_cost(own, other, pairs) for pairs in matchings_of_lines(own, other, own_ids, other_ids)))

    def test_three_lines_of_one_amount(self):
        for days in itertools.product(range(4), repeat=6):
            own = [(row_id, day, 5) for row_id, day in zip((2, 1, 3), days[:3])]
            other = [(row_id, day, 5) for row_id, day in zip((1, 3, 2), days[3:])]
            self.check(own, other)

    def test_two_amounts(self):
        for days in itertools.product((0, 2, 5), repeat=6):
            own = [(1, days[0], 5), (2, days[1], -5), (3, days[2], 5), (4, 3, -5)]
            other = [(1, days[3], -5), (2, days[4], 5), (3, days[5], 5), (4, 1, -5)]
            self.check(own, other)


if __name__ == "__main__":
    unittest.main()

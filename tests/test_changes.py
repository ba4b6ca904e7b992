"""One line more in a book, lists that interlace, and what one pair more changes."""

import copy
import inspect
import itertools
import random
import unittest

import trying
from matchlines import changes as module
from matchlines.changes import days_with, do_interlace, step_difference
from matchlines.errors import BadLine, BadNumber, TakenId
from matchlines.steps import best_matching, steps

PARAMETERS = {
    "days_with": ["own", "other", "line", "is_own"],
    "do_interlace": ["first", "second"],
    "step_difference": ["own", "other", "number"],
}


def days_of(own, other):
    return [step[0] for step in steps(own, other)]


def free_id(book):
    return max([line[0] for line in book], default=0) + 1


def plain_days(own, other):
    """The days of the steps, from all matchings."""
    least = {}
    for pairs in trying.all_matchings(own, other):
        cost = trying.plain_cost(own, other, pairs)
        least[len(pairs)] = min(cost, least.get(len(pairs), cost))
    return [least[number] - least[number - 1] for number in range(1, len(least))]


class InterfaceTest(unittest.TestCase):
    def test_functions_are_defined_here_with_the_names_shown(self):
        trying.check_interface(self, module, PARAMETERS)

    def test_is_own_is_passed_by_name(self):
        told = inspect.signature(days_with).parameters["is_own"]
        self.assertEqual((told.kind, told.default), (inspect.Parameter.KEYWORD_ONLY, inspect.Parameter.empty))
        with self.assertRaises(TypeError):
            days_with([], [], (1, 0, 5), True)
        with self.assertRaises(TypeError):
            days_with([], [], (1, 0, 5))

    def test_arguments_by_name(self):
        own, other = trying.EXAMPLE_OWN, trying.EXAMPLE_OTHER
        self.assertEqual(days_with(is_own=True, line=(3, 3, 100), other=other, own=own), ([1, 3], [0, 1]))
        self.assertIs(do_interlace(second=[0, 1], first=[1, 3]), True)
        self.assertEqual(step_difference(number=2, other=other, own=own), ([(2, 1)], [(1, 1), (2, 2)]))


class DaysWithTest(unittest.TestCase):
    def check(self, own, other, line, is_own):
        kept = copy.deepcopy((own, other))
        longer = (own + [line], other) if is_own else (own, other + [line])
        told = days_with(own, other, line, is_own=is_own)
        self.assertEqual(told, (days_of(own, other), days_of(*longer)), (own, other, line, is_own))
        self.assertTrue(do_interlace(*told), told)
        self.assertEqual((own, other), kept)
        return told

    def test_both_books(self):
        own, other = trying.EXAMPLE_OWN, trying.EXAMPLE_OTHER
        self.assertEqual(self.check(own, other, (3, 3, 100), True), ([1, 3], [0, 1]))
        self.assertEqual(self.check(own, other, (3, 4, 100), False), ([1, 3], [0, 3]))
        self.assertEqual(self.check(own, other, (3, 0, 100), False), ([1, 3], [0, 1]))

    def test_one_step_more(self):
        own, other = [(1, 0, 5)], [(1, 2, 5), (2, 9, 5)]
        self.assertEqual(self.check(own, other, (2, 5, 5), True), ([2], [2, 4]))
        self.assertEqual(self.check(own, other, (3, 5, 5), False), ([2], [2]))

    def test_new_amount(self):
        own, other = [(1, 0, 5)], [(1, 2, 5), (2, 9, -7)]
        self.assertEqual(self.check(own, other, (2, 5, 6), True), ([2], [2]))
        self.assertEqual(self.check(own, other, (2, 5, -7), True), ([2], [2, 4]))
        self.assertEqual(self.check(own, other, (3, 5, -5), False), ([2], [2]))

    def test_id_that_only_the_other_book_has(self):
        own, other = [(1, 0, 5)], [(2, 2, 5)]
        self.assertEqual(self.check(own, other, (2, 2, 5), True), ([2], [0]))
        self.assertEqual(self.check(own, other, (1, 0, 5), False), ([2], [0]))

    def test_empty_books(self):
        self.assertEqual(self.check([], [], (1, 0, 5), True), ([], []))
        self.assertEqual(self.check([], [], (1, 0, 5), False), ([], []))
        self.assertEqual(self.check([], [(1, 3, 5)], (1, 0, 5), True), ([], [3]))
        self.assertEqual(self.check([(1, 3, 5)], [], (1, 0, 5), False), ([], [3]))

    def test_bounds_of_a_line(self):
        for line in itertools.product((1, 10 ** 6), (0, 10 ** 6), (-10 ** 12, 10 ** 12)):
            self.assertEqual(self.check([], [(7, 10, line[2])], line, True), ([], [abs(line[1] - 10)]))

    def test_edges(self):
        for own, other in trying.edge_books():
            for day, amount in itertools.product((0, 5, 9), (5, -5)):
                self.check(own, other, (999, day, amount), True)
                self.check(own, other, (999, day, amount), False)

    def test_drawn_books_against_all_matchings(self):
        draw = random.Random(81)
        for own, other in trying.drawn_books(8, 200):
            for is_own in (True, False):
                line = (free_id(own if is_own else other), draw.randint(0, 12), draw.choice([5, -5]))
                longer = (own + [line], other) if is_own else (own, other + [line])
                self.assertEqual(self.check(own, other, line, is_own), (plain_days(own, other), plain_days(*longer)))

    def test_larger_books(self):
        draw = random.Random(82)
        for days in (5, 40, 10 ** 6):
            own, other = trying.full_book(draw, 20, days, [4, -4]), trying.full_book(draw, 18, days, [4, -4])
            for is_own in (True, False):
                line = (free_id(own if is_own else other), draw.randint(0, days), 4)
                _, after = self.check(own, other, line, is_own)
                longer = (own + [line], other) if is_own else (own, other + [line])
                costs = [cost for cost, _ in trying.plain_bests_of_books(*longer)[0]]
                self.assertEqual(list(itertools.accumulate(after, initial=0)), costs)

    def test_bad_line(self):
        own, other = [(1, 0, 5)], [(1, 2, 5), (2, 9, -7)]
        wrong = [(0, 5, 5), (True, 5, 5), (5, -1, 5), (5, False, 5), (5, 5, 0), (5, 5, True), [5, 5, 5], (5, 5), (5, 5, 5, 5)]
        wrong += [(10 ** 6 + 1, 5, 5), (5, 10 ** 6 + 1, 5), (5, 5, 10 ** 12 + 1), (5, 5, -10 ** 12 - 1), (None, 5, 5)]
        for value in wrong + trying.any_values() + trying.no_numbers():
            trying.check_raises(self, BadLine, value, days_with, own, other, value, is_own=True)
            trying.check_raises(self, BadLine, value, days_with, own, other, value, is_own=False)

    def test_taken_id(self):
        own, other = [(1, 0, 5), (7, 3, 6)], [(2, 2, 5), (9, 9, -7)]
        for row_id in (1, 7):
            trying.check_raises(self, TakenId, row_id, days_with, own, other, (row_id, 50, 50), is_own=True)
            self.check(own, other, (row_id, 50, 50), False)
        for row_id in (2, 9):
            trying.check_raises(self, TakenId, row_id, days_with, own, other, (row_id, 50, 50), is_own=False)
            self.check(own, other, (row_id, 50, 50), True)

    def test_bad_line_before_taken_id(self):
        for value in [(1, -1, 5), (1, 0, 0), (1, 0), [1, 0, 5], (True, 0, 5)]:
            trying.check_raises(self, BadLine, value, days_with, [(1, 0, 5)], [(1, 0, 5)], value, is_own=True)
            trying.check_raises(self, BadLine, value, days_with, [(1, 0, 5)], [(1, 0, 5)], value, is_own=False)


class DoInterlaceTest(unittest.TestCase):
    def test_equal_lengths(self):
        for first, second in [([1, 3], [0, 1]), ([1, 3], [1, 3]), ([1, 3], [0, 3]), ([5], [5]), ([5], [0]), ([2, 2], [2, 2])]:
            self.assertIs(do_interlace(first, second), True, (first, second))

    def test_one_longer(self):
        for first, second in [([1, 3], [0, 1, 3]), ([1, 3], [1, 3, 9]), ([1, 3], [0, 2, 3]), ([], [4]), ([5], [5, 5])]:
            self.assertIs(do_interlace(first, second), True, (first, second))

    def test_one_shorter_and_two_longer(self):
        for first, second in [([1, 3], [0]), ([1, 3], [1]), ([1], []), ([1, 3], []), ([0, 0, 0], [0, 0])]:
            self.assertIs(do_interlace(first, second), False, (first, second))
        for first, second in [([1, 3], [0, 1, 3, 4]), ([], [1, 2]), ([0], [0, 0, 0]), ([], [0, 0, 0])]:
            self.assertIs(do_interlace(first, second), False, (first, second))

    def test_empty(self):
        self.assertIs(do_interlace([], []), True)

    def test_equal_numbers(self):
        for number, more in itertools.product(range(6), (0, 1)):
            self.assertIs(do_interlace([3] * number, [3] * (number + more)), True)

    def test_one_number_out_of_its_place(self):
        for more in (0, 1):
            first, second = [10, 20, 30, 40], [5, 15, 25, 35, 45][:4 + more]
            self.assertIs(do_interlace(first, second), True)
            for place in range(len(second)):
                if place < len(first):
                    raised = second[:place] + [first[place] + 1] + second[place + 1:]
                    self.assertIs(do_interlace(first, raised), False, raised)
                    raised[place] = first[place]
                    self.assertIs(do_interlace(first, raised), True, raised)
                if place > 0:
                    lowered = second[:place] + [first[place - 1] - 1] + second[place + 1:]
                    self.assertIs(do_interlace(first, lowered), False, lowered)
                    lowered[place] = first[place - 1]
                    self.assertIs(do_interlace(first, lowered), True, lowered)

    def test_the_old_list_is_the_first_one(self):
        self.assertIs(do_interlace([0, 1], [1, 3]), False)
        self.assertIs(do_interlace([1, 3], [2, 2]), False)

    def test_all_short_lists(self):
        rows = [list(row) for number in range(4) for row in itertools.combinations_with_replacement(range(4), number)]
        for first, second in itertools.product(rows, rows):
            merged = [number for both in itertools.zip_longest(second, first) for number in both if number is not None]
            expected = len(second) in (len(first), len(first) + 1) and merged == sorted(merged)
            self.assertIs(do_interlace(first, second), expected, (first, second))

    def test_arguments_stay(self):
        first, second = [1, 3], [0, 1, 3]
        do_interlace(first, second)
        self.assertEqual((first, second), ([1, 3], [0, 1, 3]))


class StepDifferenceTest(unittest.TestCase):
    def check(self, own, other):
        kept = copy.deepcopy((own, other))
        for number in range(1, len(steps(own, other)) + 1):
            before, after = set(best_matching(own, other, number - 1)), set(best_matching(own, other, number))
            told = step_difference(own, other, number)
            self.assertEqual(told, (sorted(before - after), sorted(after - before)), (own, other, number))
            self.assertEqual([type(told), type(told[0]), type(told[1])], [tuple, list, list])
            self.assertEqual(len(told[1]), len(told[0]) + 1)
        self.assertEqual((own, other), kept)

    def check_bad_numbers(self, own, other):
        most = len(steps(own, other))
        for value in trying.no_numbers() + [0, -1, most + 1, most + 2, -most - 1]:
            trying.check_raises(self, BadNumber, value, step_difference, own, other, value)

    def test_edges(self):
        for own, other in trying.edge_books():
            self.check(own, other)

    def test_drawn_books(self):
        for own, other in trying.drawn_books(83, 300, most=7):
            self.check(own, other)

    def test_larger_books(self):
        draw = random.Random(84)
        for days in (9, 200):
            self.check(trying.full_book(draw, 14, days, [4, -4]), trying.full_book(draw, 12, days, [4, -4]))

    def test_known(self):
        own, other = [(1, 0, 5), (2, 10, 5), (3, 20, 5)], [(1, 10, 5), (2, 20, 5), (3, 30, 5)]
        self.assertEqual([step_difference(own, other, number) for number in (1, 2)], [([], [(2, 1)]), ([], [(3, 2)])])
        self.assertEqual(step_difference(own, other, 3), ([(2, 1), (3, 2)], [(1, 1), (2, 2), (3, 3)]))

    def test_sorted_as_numbers(self):
        own, other = [(10, 0, 5), (9, 10, 5)], [(11, 9, 5), (2, 19, 5)]
        self.assertEqual(step_difference(own, other, 1), ([], [(9, 11)]))
        self.assertEqual(step_difference(own, other, 2), ([(9, 11)], [(9, 2), (10, 11)]))

    def test_bad_number(self):
        for own, other in trying.edge_books():
            self.check_bad_numbers(own, other)


if __name__ == "__main__":
    unittest.main()

"""Comparisons: books, price, confirmed pairs, what is matched and left over, undo and redo."""

import copy
import inspect
import itertools
import random
import unittest

import trying
from matchlines import comparison as module
from matchlines.books import is_line, is_price
from matchlines.comparison import Comparison
from matchlines.errors import BadLine, BadNumber, BadPrice, MatchError, NothingToDo, TakenId, TakenLine, UnknownLine
from matchlines.prices import matching_at
from matchlines.steps import steps

METHODS = {
    "add_own": ["self", "row_id", "day", "amount"],
    "add_other": ["self", "row_id", "day", "amount"],
    "drop_own": ["self", "row_id"],
    "drop_other": ["self", "row_id"],
    "set_price": ["self", "price"],
    "confirm": ["self", "own_id", "other_id"],
    "open_again": ["self", "own_id"],
    "pairs": ["self"],
    "open_own": ["self"],
    "open_other": ["self"],
    "left": ["self"],
    "open_steps": ["self"],
    "undo": ["self"],
    "redo": ["self"],
    "copied": ["self"],
}


def parts(comparison):
    return [comparison.own, comparison.other, comparison.price, comparison.confirmed]


def small():
    """A comparison with open and confirmed lines, nothing to undo, and nothing to redo."""
    own, other = [(1, 0, 100), (2, 4, 100), (3, 9, 7)], [(1, 3, 100), (2, 5, 100), (4, 2, -7)]
    return Comparison.made(own, other, 5, [(3, 4)])


def between():
    """The same, made by changes, with something to undo and something to redo."""
    told = small()
    told.set_price(6)
    told.add_own(50, 50, 50)
    told.undo()
    told.set_price(5)
    told.add_own(60, 60, 60)
    told.undo()
    return told


def full():
    """A comparison with 60 lines in each book."""
    own = [(row_id, row_id, 5) for row_id in range(1, 61)]
    return Comparison.made(own, [(row_id + 100, day, amount) for row_id, day, amount in own], 5, [(1, 101)])


def undone(comparison):
    """All that can be undone, one by one, in a copy."""
    return walked(comparison, "undo")


def redone(comparison):
    return walked(comparison, "redo")


def walked(comparison, action):
    told = copy.deepcopy(comparison)
    found = []
    while True:
        try:
            getattr(told, action)()
        except NothingToDo:
            return found
        found.append(parts(told))


class InterfaceTest(unittest.TestCase):
    def test_class_and_methods_are_defined_here_with_the_names_shown(self):
        self.assertEqual(Comparison.__module__, module.__name__)
        self.assertEqual(list(inspect.signature(Comparison).parameters), [])
        for name, parameters in METHODS.items():
            with self.subTest(name):
                self.assertIn(name, vars(Comparison))
                self.assertEqual(list(inspect.signature(getattr(Comparison, name)).parameters), parameters)

    def test_made_is_a_class_method(self):
        self.assertIsInstance(vars(Comparison)["made"], classmethod)
        self.assertEqual(list(inspect.signature(Comparison.made).parameters), ["own", "other", "price", "confirmed"])
        told = Comparison.made(confirmed=[(1, 2)], price=4, other=[(2, 0, 5)], own=[(1, 0, 6)])
        self.assertEqual(parts(told), [[(1, 0, 6)], [(2, 0, 5)], 4, [(1, 2)]])

    def test_properties_and_eq_are_defined_here(self):
        for name in ("own", "other", "price", "confirmed"):
            self.assertIsInstance(vars(Comparison)[name], property)
        self.assertIn("__eq__", vars(Comparison))

    def test_limit_is_a_class_value(self):
        self.assertEqual((Comparison.LIMIT, Comparison().LIMIT), (60, 60))
        self.assertIn("LIMIT", vars(Comparison))

    def test_arguments_by_name(self):
        told = Comparison()
        told.add_own(amount=100, day=0, row_id=1)
        told.add_other(amount=90, day=3, row_id=7)
        told.set_price(price=4)
        told.confirm(other_id=7, own_id=1)
        self.assertEqual(parts(told), [[(1, 0, 100)], [(7, 3, 90)], 4, [(1, 7)]])
        told.open_again(own_id=1)
        told.drop_own(row_id=1)
        told.drop_other(row_id=7)
        self.assertEqual(parts(told), [[], [], 4, []])

    def test_what_changes_something_returns_none(self):
        told = Comparison()
        answers = [told.add_own(1, 0, 5), told.add_other(2, 0, 5), told.set_price(4), told.confirm(1, 2), told.open_again(1)]
        answers += [told.drop_own(1), told.drop_other(2), told.undo(), told.redo()]
        self.assertEqual(answers, [None] * 9)


class NewTest(unittest.TestCase):
    def test_new(self):
        told = Comparison()
        self.assertEqual(parts(told), [[], [], 0, []])
        self.assertEqual([told.pairs(), told.open_own(), told.open_other()], [[], [], []])
        self.assertEqual([told.left(), told.open_steps()], [([], []), []])
        self.assertEqual([undone(told), redone(told)], [[], []])

    def test_two_share_nothing(self):
        first, second = Comparison(), Comparison()
        first.add_own(1, 0, 5)
        first.add_other(1, 0, 5)
        first.confirm(1, 1)
        self.assertEqual(parts(second), [[], [], 0, []])
        self.assertEqual(undone(second), [])


class MadeTest(unittest.TestCase):
    def test_any_sequence(self):
        own, other, confirmed = [(1, 9, 5), (10, 0, 5), (9, 4, -5)], [(3, 9, 5), (20, 0, 5)], [(10, 3), (9, 20)]
        kept = Comparison.made(own, other, 7, confirmed)
        self.assertEqual(parts(kept), [[(1, 9, 5), (9, 4, -5), (10, 0, 5)], [(3, 9, 5), (20, 0, 5)], 7, [(9, 20), (10, 3)]])
        for rows in itertools.product(*[itertools.permutations(part) for part in (own, other, confirmed)]):
            told = Comparison.made(list(rows[0]), list(rows[1]), 7, list(rows[2]))
            self.assertEqual(parts(told), parts(kept))
            self.assertEqual(told, kept)

    def test_what_is_handed_in_stays_the_callers(self):
        own, other, confirmed = [(2, 9, 5), (1, 0, 5)], [(3, 9, 5), (2, 0, 5)], [(2, 2), (1, 3)]
        given = copy.deepcopy([own, other, confirmed])
        told = Comparison.made(own, other, 7, confirmed)
        self.assertEqual([own, other, confirmed], given)
        kept = parts(told)
        own.append((3, 3, 3)), other.clear(), confirmed.pop()
        self.assertEqual(parts(told), kept)
        self.assertEqual([told.open_own(), told.open_other()], [[], []])
        told.drop_own(1)
        self.assertEqual(own, [(2, 9, 5), (1, 0, 5), (3, 3, 3)])

    def test_nothing_to_undo_or_redo(self):
        for told in (small(), small().copied(), between().copied(), full(), Comparison().copied()):
            self.assertEqual([undone(told), redone(told)], [[], []])
            trying.check_raises(self, NothingToDo, "undo", told.undo)
            trying.check_raises(self, NothingToDo, "redo", told.redo)

    def test_a_copy_has_the_same_parts(self):
        for told in (small(), between(), full(), Comparison()):
            again = told.copied()
            self.assertIsNot(again, told)
            self.assertIs(type(again), Comparison)
            self.assertEqual(parts(again), parts(told))
            self.assertEqual(again, told)

    def test_a_change_of_a_copy_leaves_the_other_one(self):
        first = between()
        kept, done = parts(first), undone(first)
        for changed, still in [(first.copied(), first), (first, first.copied())]:
            changed.open_again(3)
            changed.drop_own(1)
            changed.drop_other(2)
            changed.add_own(9, 9, 9)
            changed.add_other(9, 9, 9)
            changed.confirm(9, 1)
            changed.set_price(77)
            self.assertEqual(parts(still), kept)
            self.assertNotEqual(changed, still)
        self.assertEqual(undone(first)[7:], done)

    def test_making_a_copy_leaves_undo_and_redo(self):
        told = between()
        kept = [undone(told), redone(told)]
        told.copied()
        self.assertEqual([undone(told), redone(told)], kept)
        self.assertEqual([len(rows) for rows in kept], [2, 1])


class EqualTest(unittest.TestCase):
    def check(self, first, second, is_equal):
        self.assertIs(first == second, is_equal)
        self.assertIs(second == first, is_equal)
        self.assertIs(first != second, not is_equal)
        self.assertIs(second != first, not is_equal)

    def test_equal(self):
        told = small()
        for again in (told, small(), told.copied(), between()):
            self.check(told, again, True)
        self.check(Comparison(), Comparison.made([], [], 0, []), True)

    def test_undo_and_redo_do_not_count(self):
        told = Comparison()
        told.set_price(0)
        self.check(told, Comparison(), True)
        told.undo()
        self.check(told, Comparison(), True)

    def test_each_part_counts(self):
        own, other = [(1, 0, 5), (2, 0, 5)], [(1, 0, 5), (2, 0, 5)]
        rows = [
            (own, other, 5, [(1, 1)]), (own[:1], other, 5, [(1, 1)]), (own, other[:1], 5, [(1, 1)]), (own, other, 6, [(1, 1)]),
            (own, other, 5, []), (own, other, 5, [(1, 2)]), (own, other, 5, [(1, 1), (2, 2)]),
            (own[:1] + [(2, 0, 6)], other, 5, [(1, 1)]), (own[:1] + [(2, 1, 5)], other, 5, [(1, 1)]),
            (own, other[:1] + [(2, 0, 6)], 5, [(1, 1)]), (own, other[:1] + [(3, 0, 5)], 5, [(1, 1)]),
        ]
        for first, second in itertools.product(rows, rows):
            self.check(Comparison.made(*first), Comparison.made(*second), first == second)

    def test_the_books_do_not_stand_for_each_other(self):
        self.check(Comparison.made([(1, 0, 5)], [], 0, []), Comparison.made([], [(1, 0, 5)], 0, []), False)

    def test_any_other_values(self):
        told = small()
        for value in trying.any_values() + trying.no_numbers() + [parts(told), tuple(parts(told)), 0, 5, object(), Comparison]:
            self.check(told, value, False)
        for value in [[], (), 0, None, {}, "", [[], [], 0, []]]:
            self.check(Comparison(), value, False)


class PropertiesTest(unittest.TestCase):
    def test_sorted_by_ids(self):
        told = Comparison()
        for row_id in (10, 9, 100, 1, 2):
            told.add_own(row_id, 100 - row_id, 5)
            told.add_other(row_id, row_id, -5)
        self.assertEqual([line[0] for line in told.own], [1, 2, 9, 10, 100])
        self.assertEqual([line[0] for line in told.other], [1, 2, 9, 10, 100])
        for own_id, other_id in [(10, 1), (9, 100), (100, 2)]:
            told.confirm(own_id, other_id)
        self.assertEqual(told.confirmed, [(9, 100), (10, 1), (100, 2)])
        self.assertEqual([[line[0] for line in book] for book in (told.open_own(), told.open_other())], [[1, 2], [9, 10]])

    def test_kinds(self):
        told = small()
        answers = parts(told) + [told.pairs(), told.open_own(), told.open_other(), told.left(), *told.left(), told.open_steps()]
        self.assertEqual([type(answer) for answer in answers], [list, list, int] + [list] * 4 + [tuple] + [list] * 3)

    def test_cannot_be_assigned(self):
        told = small()
        for name in ("own", "other", "price", "confirmed"):
            with self.assertRaises(AttributeError):
                setattr(told, name, [])

    def test_nothing_changes_through_what_is_returned(self):
        for told in (small(), between(), full()):
            kept, before = parts(told), [undone(told), redone(told)]
            rows = [told.pairs(), told.open_own(), told.open_other(), told.left(), told.open_steps()]
            answers = copy.deepcopy(rows)
            own_left, other_left = rows[3]
            for value in [told.own, told.other, told.confirmed, *rows[:3], rows[4], own_left, other_left]:
                value.append((999, 9, 9))
                value[0] = (998, 8, 8)
                value.reverse()
            self.assertEqual(parts(told), kept)
            self.assertEqual([undone(told), redone(told)], before)
            self.assertEqual([told.pairs(), told.open_own(), told.open_other(), told.left(), told.open_steps()], answers)

    def test_reading_is_no_change(self):
        told = between()
        before = [undone(told), redone(told)]
        parts(told), told.pairs(), told.left(), told.open_own(), told.open_other(), told.open_steps(), told == told
        self.assertEqual([undone(told), redone(told)], before)


class ChangesTest(unittest.TestCase):
    def test_add_and_drop(self):
        told = Comparison()
        told.add_own(2, 5, -7)
        told.add_own(1, 6, 8)
        told.add_other(2, 7, 9)
        self.assertEqual(parts(told), [[(1, 6, 8), (2, 5, -7)], [(2, 7, 9)], 0, []])
        told.drop_own(2)
        self.assertEqual(parts(told), [[(1, 6, 8)], [(2, 7, 9)], 0, []])
        told.drop_other(2)
        self.assertEqual(parts(told), [[(1, 6, 8)], [], 0, []])
        told.add_own(2, 0, 1)
        self.assertEqual(told.own, [(1, 6, 8), (2, 0, 1)])

    def test_bounds_of_lines(self):
        for row_id, day, amount in itertools.product((1, 10 ** 6), (0, 10 ** 6), (-10 ** 12, -1, 1, 10 ** 12)):
            told = Comparison()
            told.add_own(row_id, day, amount)
            told.add_other(row_id, day, -amount)
            self.assertEqual(parts(told), [[(row_id, day, amount)], [(row_id, day, -amount)], 0, []])

    def test_price(self):
        told = small()
        for price in (0, 1, 5, 10 ** 12 - 1, 10 ** 12):
            told.set_price(price)
            self.assertEqual(told.price, price)

    def test_confirm_and_open_again(self):
        told = Comparison.made([(1, 0, 5), (2, 0, 6)], [(1, 0, 6), (2, 9, 7)], 3, [])
        told.confirm(2, 2)
        self.assertEqual(told.confirmed, [(2, 2)])
        told.confirm(1, 1)
        self.assertEqual(told.confirmed, [(1, 1), (2, 2)])
        told.open_again(2)
        self.assertEqual(told.confirmed, [(1, 1)])
        told.open_again(1)
        self.assertEqual(told.confirmed, [])

    def test_a_line_that_goes_takes_its_confirmed_pair_with_it(self):
        own, other = [(1, 0, 5), (2, 0, 6), (3, 0, 7)], [(1, 0, 6), (2, 9, 7), (3, 0, 7)]
        told = Comparison.made(own, other, 3, [(1, 2), (2, 1)])
        told.drop_own(1)
        self.assertEqual(parts(told), [own[1:], other, 3, [(2, 1)]])
        told.drop_other(1)
        self.assertEqual(parts(told), [own[1:], other[1:], 3, []])
        self.assertEqual([told.open_own(), told.open_other()], [own[1:], other[1:]])
        told.drop_own(3)
        self.assertEqual(parts(told), [own[1:2], other[1:], 3, []])
        told.add_own(1, 0, 5)
        self.assertEqual(told.confirmed, [])

    def test_other_pairs_stay_when_a_line_goes(self):
        own, other = [(1, 0, 5), (2, 0, 6), (3, 1, 1)], [(1, 0, 6), (2, 9, 7), (3, 1, 1)]
        for name in ("drop_own", "drop_other"):
            told = Comparison.made(own, other, 3, [(1, 2), (2, 1)])
            getattr(told, name)(3)
            self.assertEqual(told.confirmed, [(1, 2), (2, 1)])

    def test_sixty_lines(self):
        told = Comparison()
        for row_id in range(60, 0, -1):
            told.add_own(row_id, row_id, 5)
            told.add_other(row_id, 0, -5)
        self.assertEqual([len(told.own), len(told.other)], [60, 60])
        for add, drop, book in [("add_own", "drop_own", "own"), ("add_other", "drop_other", "other")]:
            trying.check_raises(self, BadNumber, 61, getattr(told, add), 61, 0, 5)
            getattr(told, drop)(30)
            getattr(told, add)(61, 0, 5)
            self.assertEqual(len(getattr(told, book)), 60)
            trying.check_raises(self, BadNumber, 61, getattr(told, add), 30, 0, 5)


class ErrorsTest(unittest.TestCase):
    def check(self, told, expected, value, name, *rest):
        kept = [parts(told), undone(told), redone(told)]
        trying.check_raises(self, expected, value, getattr(told, name), *rest)
        self.assertEqual([parts(told), undone(told), redone(told)], kept)

    def check_all(self, expected, value, name, *rest):
        for told in (small(), between()):
            self.check(told, expected, value, name, *rest)

    def test_bad_line(self):
        for name in ("add_own", "add_other"):
            for value in trying.any_values() + trying.no_numbers() + [10 ** 6 + 1, 10 ** 12 + 1, -10 ** 12 - 1, 0]:
                for line in [(value, 5, 5), (55, value, 5), (55, 5, value), (value, value, value)]:
                    if not is_line(line):
                        self.check_all(BadLine, line, name, *line)

    def test_taken_id(self):
        for row_id in (1, 2, 3):
            self.check_all(TakenId, row_id, "add_own", row_id, 77, 77)
        for row_id in (1, 2, 4):
            self.check_all(TakenId, row_id, "add_other", row_id, 77, 77)

    def test_an_id_that_only_the_other_book_has_is_free(self):
        told = small()
        told.add_own(4, 0, 5)
        told.add_other(3, 0, 5)
        self.assertEqual([len(told.own), len(told.other)], [4, 4])

    def test_full_book(self):
        for name in ("add_own", "add_other"):
            self.check(full(), BadNumber, 61, name, 777, 7, 7)

    def test_bad_line_before_taken_id_before_full_book(self):
        for name, row_id in [("add_own", 7), ("add_other", 107)]:
            self.check(full(), BadLine, (row_id, -1, 5), name, row_id, -1, 5)
            self.check(full(), BadLine, (777, 5, 0), name, 777, 5, 0)
            self.check(full(), TakenId, row_id, name, row_id, 5, 5)
            self.check_all(BadLine, (1, 5, 0), name, 1, 5, 0)

    def test_unknown_line(self):
        for value in trying.any_values() + trying.no_numbers() + [0, 5, 10 ** 6, "3", (3, 9, 7), (3,), [3]]:
            for name in ("drop_own", "drop_other", "open_again"):
                self.check_all(UnknownLine, value, name, value)
            self.check_all(UnknownLine, value, "confirm", value, 1)
            self.check_all(UnknownLine, value, "confirm", 1, value)
        self.check_all(UnknownLine, 4, "drop_own", 4)
        self.check_all(UnknownLine, 3, "drop_other", 3)
        self.check_all(UnknownLine, 4, "confirm", 4, 1)
        self.check_all(UnknownLine, 3, "confirm", 1, 3)

    def test_true_is_no_id_and_no_price(self):
        for name in ("drop_own", "drop_other"):
            self.check_all(UnknownLine, True, name, True)
        self.check_all(UnknownLine, True, "confirm", True, 1)
        self.check_all(UnknownLine, True, "confirm", 1, True)
        told = Comparison.made([(1, 0, 5)], [(1, 0, 5)], 1, [(1, 1)])
        self.check(told, UnknownLine, True, "open_again", True)
        self.check(told, BadPrice, True, "set_price", True)
        self.check(told, BadPrice, False, "set_price", False)
        self.check(told, BadLine, (True, 0, 5), "add_own", True, 0, 5)

    def test_first_id_before_the_second(self):
        for first, second in [(77, 78), (77, 1), (77, 4), ("a", None), ([1], {}), (None, 78), (4, 3)]:
            self.check_all(UnknownLine, first, "confirm", first, second)
        for second in (78, None, [1], 3):
            self.check_all(UnknownLine, second, "confirm", 1, second)

    def test_unknown_line_before_taken_line(self):
        self.check_all(UnknownLine, 77, "confirm", 77, 4)
        self.check_all(UnknownLine, 78, "confirm", 3, 78)
        self.check_all(UnknownLine, 3, "confirm", 3, 3)

    def test_taken_line(self):
        self.check_all(TakenLine, 3, "confirm", 3, 1)
        self.check_all(TakenLine, 4, "confirm", 1, 4)
        self.check_all(TakenLine, 3, "confirm", 3, 4)
        told = Comparison.made([(1, 0, 5), (2, 0, 5), (3, 0, 5)], [(3, 0, 5), (4, 0, 5), (5, 0, 5)], 0, [(1, 3), (2, 4)])
        self.check(told, TakenLine, 2, "confirm", 2, 3)
        self.check(told, TakenLine, 3, "confirm", 3, 3)
        told.confirm(3, 5)

    def test_open_again_of_lines_in_no_confirmed_pair(self):
        for value in (1, 2, 4, 5):
            self.check_all(UnknownLine, value, "open_again", value)

    def test_bad_price(self):
        for value in trying.any_values() + trying.no_numbers() + [-1, 10 ** 12 + 1, "5"]:
            if not is_price(value):
                self.check_all(BadPrice, value, "set_price", value)

    def test_nothing_to_do(self):
        self.check(small(), NothingToDo, "undo", "undo")
        self.check(small(), NothingToDo, "redo", "redo")
        told = small()
        told.set_price(9)
        self.check(told, NothingToDo, "redo", "redo")
        told.undo()
        self.check(told, NothingToDo, "undo", "undo")


class MatchedTest(unittest.TestCase):
    def check(self, told):
        taken = [{pair[side] for pair in told.confirmed} for side in (0, 1)]
        own_open = [line for line in told.own if line[0] not in taken[0]]
        other_open = [line for line in told.other if line[0] not in taken[1]]
        self.assertEqual([told.open_own(), told.open_other()], [sorted(own_open), sorted(other_open)])
        self.assertEqual(told.pairs(), matching_at(own_open, other_open, told.price))
        self.assertEqual(told.open_steps(), steps(own_open, other_open))
        matched = [{pair[side] for pair in told.pairs()} for side in (0, 1)]
        own_left = sorted(line[0] for line in own_open if line[0] not in matched[0])
        other_left = sorted(line[0] for line in other_open if line[0] not in matched[1])
        self.assertEqual(told.left(), (own_left, other_left))

    def test_known(self):
        told = Comparison.made([(1, 0, 100), (2, 4, 100)], [(1, 3, 100), (2, 5, 100)], 2, [])
        self.assertEqual([told.pairs(), told.left(), told.open_steps()], [[(2, 1)], ([1], [2]), [(1, 2, 1), (3, 1, 2)]])
        told.set_price(3)
        self.assertEqual([told.pairs(), told.left()], [[(1, 1), (2, 2)], ([], [])])
        told.confirm(2, 2)
        self.assertEqual([told.pairs(), told.left(), told.open_steps()], [[(1, 1)], ([], []), [(3, 1, 1)]])

    def test_confirmed_pairs_of_different_amounts(self):
        told = Comparison.made([(1, 0, 100), (2, 4, 100), (3, 0, 7)], [(1, 3, 100), (2, 5, 7), (4, 9, -7)], 50, [(1, 4)])
        self.assertEqual([told.pairs(), told.left()], [[(2, 1), (3, 2)], ([], [])])
        told.confirm(3, 1)
        self.assertEqual([told.pairs(), told.left(), told.open_steps()], [[], ([2], [2]), []])
        self.check(told)

    def test_against_all_matchings_of_the_open_lines(self):
        draw = random.Random(122)
        for own, other in trying.drawn_books(12, 200, most=5):
            number = draw.randint(0, min(len(own), len(other), 2))
            ids = [draw.sample([line[0] for line in book], number) for book in (own, other)]
            price = draw.choice([0, 1, 2, 5, 30, 10 ** 12])
            told = Comparison.made(own, other, price, list(zip(*ids)))
            self.check(told)
            own_open = [line for line in own if line[0] not in ids[0]]
            other_open = [line for line in other if line[0] not in ids[1]]
            matchings = trying.all_matchings(own_open, other_open)
            _, rows = trying.greatest(own_open, other_open, matchings, price)
            most = [pairs for pairs in rows if len(pairs) == max(len(row) for row in rows)]
            self.assertEqual(told.pairs(), trying.best_of_all(own_open, other_open, most, len(most[0])))

    def test_behind_each_change(self):
        draw = random.Random(123)
        for _ in range(12):
            told = Comparison()
            for _ in range(60):
                changed(draw, told)
                self.check(told)

    def test_full_books(self):
        draw = random.Random(124)
        for days in (10, 10 ** 6):
            own, other = [trying.full_book(draw, 30, days, [4, -4]) for _ in range(2)]
            told = Comparison.made(own, other, days // 5, [(own[0][0], other[0][0]), (own[5][0], other[9][0])])
            self.check(told)


def changed(draw, told):
    """Try a change, drawn, which may be refused."""
    name = draw.choice(["add_own", "add_other"] * 3 + ["drop_own", "drop_other", "set_price", "confirm", "confirm", "open_again"])
    row_id = draw.randint(1, 15)
    rest = {"set_price": [draw.randint(0, 12)], "confirm": [row_id, draw.randint(1, 15)]}.get(name, [row_id])
    if name.startswith("add"):
        rest = [row_id, draw.randint(0, 20), draw.choice([5, 5, -5])]
    try:
        getattr(told, name)(*rest)
    except MatchError:
        return False
    return True


class UndoTest(unittest.TestCase):
    def check_change(self, told, name, *rest):
        before = parts(told)
        getattr(told, name)(*rest)
        after = parts(told)
        told.undo()
        self.assertEqual(parts(told), before)
        told.redo()
        self.assertEqual(parts(told), after)
        told.undo()
        self.assertEqual(parts(told), before)
        return after

    def test_every_kind_of_change(self):
        for make in (small, between):
            self.assertEqual(self.check_change(make(), "add_own", 9, 1, 1)[0][-1], (9, 1, 1))
            self.assertEqual(self.check_change(make(), "add_other", 9, 1, 1)[1][-1], (9, 1, 1))
            self.assertEqual(len(self.check_change(make(), "drop_own", 1)[0]), 2)
            self.assertEqual(len(self.check_change(make(), "drop_other", 1)[1]), 2)
            self.assertEqual(self.check_change(make(), "set_price", 77)[2], 77)
            self.assertEqual(self.check_change(make(), "confirm", 1, 2)[3], [(1, 2), (3, 4)])
            self.assertEqual(self.check_change(make(), "open_again", 3)[3], [])

    def test_line_dropped_with_its_confirmed_pair(self):
        told = small()
        self.assertEqual(self.check_change(told, "drop_own", 3)[3], [])
        self.assertEqual(self.check_change(told, "drop_other", 4)[3], [])
        told.drop_other(4)
        told.undo()
        self.assertEqual([told.confirmed, told.other[-1]], [[(3, 4)], (4, 2, -7)])

    def test_a_change_that_leaves_everything_as_it_was(self):
        told = small()
        told.set_price(9)
        told.set_price(9)
        told.undo()
        self.assertEqual(told.price, 9)
        told.undo()
        self.assertEqual(told.price, 5)
        trying.check_raises(self, NothingToDo, "undo", told.undo)
        told.redo()
        told.redo()
        self.assertEqual(told.price, 9)
        trying.check_raises(self, NothingToDo, "redo", told.redo)

    def test_such_a_change_takes_away_redo(self):
        told = small()
        told.set_price(9)
        told.undo()
        told.set_price(5)
        trying.check_raises(self, NothingToDo, "redo", told.redo)
        told.undo()
        trying.check_raises(self, NothingToDo, "undo", told.undo)

    def test_redo_is_gone_behind_every_kind_of_change(self):
        changes = [("add_own", 9, 1, 1), ("add_other", 9, 1, 1), ("drop_own", 1), ("drop_other", 1), ("set_price", 3)]
        for name, *rest in changes + [("confirm", 1, 2), ("open_again", 3)]:
            told = between()
            self.assertEqual(len(redone(told)), 1)
            getattr(told, name)(*rest)
            trying.check_raises(self, NothingToDo, "redo", told.redo)
            self.assertEqual(len(undone(told)), 3)

    def test_redo_stays_behind_an_error(self):
        told = small()
        told.set_price(9)
        told.undo()
        for name, *rest in [("set_price", -1), ("drop_own", 99), ("add_own", 1, 0, 5), ("confirm", 3, 1), ("undo",)]:
            with self.assertRaises(MatchError):
                getattr(told, name)(*rest)
        told.redo()
        self.assertEqual(told.price, 9)

    def test_undo_then_redo_some_of_many(self):
        told = Comparison()
        states = [parts(told)]
        for price in range(1, 8):
            told.set_price(price)
            states.append(parts(told))
        for _ in range(4):
            told.undo()
        told.redo()
        self.assertEqual(parts(told), states[4])
        told.set_price(50)
        self.assertEqual(undone(told), states[4::-1])
        self.assertEqual(redone(told), [])

    def test_three_hundred_changes(self):
        draw = random.Random(13)
        told = Comparison()
        states = [parts(told)]
        while len(states) <= 300:
            if changed(draw, told):
                states.append(parts(told))
        for state in states[-2::-1]:
            told.undo()
            self.assertEqual(parts(told), state)
        trying.check_raises(self, NothingToDo, "undo", told.undo)
        for state in states[1:]:
            told.redo()
            self.assertEqual(parts(told), state)
        trying.check_raises(self, NothingToDo, "redo", told.redo)
        for _ in range(300):
            told.undo()
        self.assertEqual(told, Comparison())

    def test_against_kept_states(self):
        draw = random.Random(131)
        told = Comparison()
        past, now, future = [], parts(told), []
        for _ in range(1500):
            action = draw.choice(["change"] * 3 + ["undo", "undo", "redo"])
            if action == "change":
                if changed(draw, told):
                    past, now, future = past + [now], parts(told), []
            elif not {"undo": past, "redo": future}[action]:
                trying.check_raises(self, NothingToDo, action, getattr(told, action))
            elif action == "undo":
                told.undo()
                past, now, future = past[:-1], past[-1], [now] + future
            else:
                told.redo()
                past, now, future = past + [now], future[0], future[1:]
            self.assertEqual(parts(told), now)


if __name__ == "__main__":
    unittest.main()

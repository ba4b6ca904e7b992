"""Lines, books, prices, and the sequence of lines."""

import copy
import inspect
import itertools
import unittest

from matchlines import books
from matchlines.books import amounts_of, is_book, is_line, is_price, lines_of, sequence
from trying import any_values, wrong_integers

PARAMETERS = {
    "is_line": ["value"],
    "is_book": ["value"],
    "is_price": ["value"],
    "sequence": ["own", "other"],
    "lines_of": ["book", "amount"],
    "amounts_of": ["own", "other"],
}


class InterfaceTest(unittest.TestCase):
    def test_functions_are_defined_here_with_the_names_shown(self):
        for name, parameters in PARAMETERS.items():
            with self.subTest(name):
                told = getattr(books, name)
                self.assertEqual((told.__module__, told.__name__), ("matchlines.books", name))
                self.assertEqual(list(inspect.signature(told).parameters), parameters)

    def test_arguments_by_name(self):
        self.assertIs(is_line(value=(1, 0, 100)), True)
        self.assertIs(is_book(value=[(1, 0, 100)]), True)
        self.assertIs(is_price(value=3), True)
        self.assertEqual(sequence(other=[(1, 0, 5)], own=[(2, 0, 5)]), [("own", (2, 0, 5)), ("other", (1, 0, 5))])
        self.assertEqual(lines_of(amount=5, book=[(2, 0, 5), (1, 0, 6)]), [(2, 0, 5)])
        self.assertEqual(amounts_of(other=[(1, 0, 5)], own=[(2, 0, 5), (3, 0, 7)]), [5])


class IsLineTest(unittest.TestCase):
    def test_lines(self):
        for line in [(1, 4, 100), (2, 0, -100), (77, 365, 1), (9, 9, -1)]:
            self.assertIs(is_line(line), True, line)

    def test_bounds(self):
        for row_id in (1, 2, 10 ** 6 - 1, 10 ** 6):
            self.assertIs(is_line((row_id, 5, 5)), True, row_id)
        for day in (0, 1, 10 ** 6 - 1, 10 ** 6):
            self.assertIs(is_line((5, day, 5)), True, day)
        for amount in (-10 ** 12, 1 - 10 ** 12, -1, 1, 10 ** 12 - 1, 10 ** 12):
            self.assertIs(is_line((5, 5, amount)), True, amount)

    def test_all_bounds_together(self):
        for line in itertools.product((1, 10 ** 6), (0, 10 ** 6), (-10 ** 12, 10 ** 12)):
            self.assertIs(is_line(line), True, line)

    def test_beyond_the_bounds(self):
        for row_id in (0, -1, 10 ** 6 + 1, 10 ** 29, -10 ** 29):
            self.assertIs(is_line((row_id, 5, 5)), False, row_id)
        for day in (-1, 10 ** 6 + 1, 10 ** 29, -10 ** 29):
            self.assertIs(is_line((5, day, 5)), False, day)
        for amount in (0, -10 ** 12 - 1, 10 ** 12 + 1, 10 ** 29, -10 ** 29):
            self.assertIs(is_line((5, 5, amount)), False, amount)

    def test_no_integer_in_one_place(self):
        for value in wrong_integers():
            self.assertIs(is_line((value, 5, 5)), False, value)
            self.assertIs(is_line((5, value, 5)), False, value)
            self.assertIs(is_line((5, 5, value)), False, value)

    def test_wrong_length(self):
        for value in [(), (1,), (1, 0), (1, 0, 100, 1), (1, 0, 100, None), (1, 0, 100) * 2]:
            self.assertIs(is_line(value), False, value)

    def test_list_in_the_place_of_a_tuple(self):
        self.assertIs(is_line([1, 0, 100]), False)
        self.assertIs(is_line({1: True, 0: True, 100: True}), False)

    def test_any_value(self):
        for value in any_values() + [0, 1, [], [(1, 0, 100)]]:
            self.assertIs(is_line(value), False, value)


class IsBookTest(unittest.TestCase):
    def test_books(self):
        for book in [
            [],
            [(1, 0, 100)],
            [(2, 4, -5), (1, 4, -5)],
            [(10 ** 6, 10 ** 6, 10 ** 12), (1, 0, -10 ** 12)],
            [(3, 9, 1), (1, 0, 2), (2, 5, 3)],
        ]:
            self.assertIs(is_book(book), True, book)

    def test_long_books(self):
        self.assertIs(is_book([(row_id, 0, 1) for row_id in range(1, 201)]), True)
        self.assertIs(is_book([(row_id, 0, 1) for row_id in range(1, 201)] + [(1, 5, 5)]), False)

    def test_same_id_twice(self):
        self.assertIs(is_book([(1, 0, 100), (1, 0, 100)]), False)
        self.assertIs(is_book([(1, 0, 100), (1, 4, 200)]), False)
        self.assertIs(is_book([(1, 0, 100), (2, 0, 100), (1, 4, 200)]), False)
        self.assertIs(is_book([(2, 0, 100), (3, 0, 100), (1, 4, 200), (3, 1, 1)]), False)

    def test_one_member_is_no_line(self):
        wrong = any_values() + [0, 1, [], (0, 5, 5), (5, -1, 5), (5, 5, 0), (True, 5, 5), (5, True, 5), (5, 5, True)]
        for value in wrong + [([], 5, 5), ({}, 5, 5), (10 ** 6 + 1, 5, 5), (5, 10 ** 6 + 1, 5), (5, 5, 10 ** 12 + 1)]:
            self.assertIs(is_book([value]), False, value)
            self.assertIs(is_book([value, (7, 0, 1)]), False, value)
            self.assertIs(is_book([(7, 0, 1), value]), False, value)
            self.assertIs(is_book([(7, 0, 1), value, (8, 0, 1)]), False, value)

    def test_tuple_in_the_place_of_a_list(self):
        self.assertIs(is_book(((1, 0, 100), (2, 0, 100))), False)
        self.assertIs(is_book(((1, 0, 100),)), False)
        self.assertIs(is_book(()), False)
        self.assertIs(is_book({}), False)
        self.assertIs(is_book({(1, 0, 100): True}), False)
        self.assertIs(is_book((1, 0, 100)), False)

    def test_any_value(self):
        for value in any_values() + [0, 1]:
            self.assertIs(is_book(value), False, value)


class IsPriceTest(unittest.TestCase):
    def test_bounds(self):
        for price in (0, 1, 7, 10 ** 6 + 1, 10 ** 12 - 1, 10 ** 12):
            self.assertIs(is_price(price), True, price)

    def test_beyond_the_bounds(self):
        for price in (-1, -10 ** 12, 10 ** 12 + 1, 10 ** 29, -10 ** 29):
            self.assertIs(is_price(price), False, price)

    def test_any_value(self):
        for value in any_values() + wrong_integers():
            self.assertIs(is_price(value), False, value)


class UnchangedTest(unittest.TestCase):
    def test_what_is_asked_stays_as_it_was(self):
        for value in any_values() + [[(2, 0, 1), (1, 0, 1)], [(2, 0, 1), (1, 0, 1), (2, 0, 1)]]:
            before = copy.deepcopy(value)
            is_line(value), is_book(value), is_price(value)
            self.assertEqual(repr(value), repr(before))


class SequenceTest(unittest.TestCase):
    def test_earlier_day_first(self):
        own, other = [(1, 4, 5), (2, 0, 5)], [(3, 3, 5), (4, 10, 5)]
        expected = [("own", own[1]), ("other", other[0]), ("own", own[0]), ("other", other[1])]
        self.assertEqual(sequence(own, other), expected)

    def test_same_day_own_lines_first(self):
        own, other = [(9, 4, 5), (8, 4, 6)], [(1, 4, 7), (2, 4, 4)]
        expected = [("own", own[1]), ("own", own[0]), ("other", other[0]), ("other", other[1])]
        self.assertEqual(sequence(own, other), expected)

    def test_same_day_lesser_id_first(self):
        own = [(10, 4, -1), (9, 4, 3), (100, 4, -2), (2, 4, 1)]
        other = [(11, 4, -1), (3, 4, 3), (101, 4, -2), (20, 4, 1)]
        told = sequence(own, other)
        self.assertEqual([line[0] for side, line in told], [2, 9, 10, 100, 3, 11, 20, 101])
        self.assertEqual([side for side, line in told], ["own"] * 4 + ["other"] * 4)

    def test_equal_lines_in_both_books(self):
        book = [(1, 4, 5), (2, 4, 5)]
        expected = [("own", (1, 4, 5)), ("own", (2, 4, 5)), ("other", (1, 4, 5)), ("other", (2, 4, 5))]
        self.assertEqual(sequence(book, list(book)), expected)

    def test_one_book_in_both_places(self):
        book = [(2, 4, 5), (1, 3, 5)]
        expected = [("own", (1, 3, 5)), ("other", (1, 3, 5)), ("own", (2, 4, 5)), ("other", (2, 4, 5))]
        self.assertEqual(sequence(book, book), expected)
        self.assertEqual(book, [(2, 4, 5), (1, 3, 5)])

    def test_empty_books(self):
        self.assertEqual(sequence([], []), [])
        self.assertEqual(sequence([(2, 1, 5), (1, 1, 5)], []), [("own", (1, 1, 5)), ("own", (2, 1, 5))])
        self.assertEqual(sequence([], [(2, 1, 5), (1, 1, 5)]), [("other", (1, 1, 5)), ("other", (2, 1, 5))])

    def test_amounts_mean_nothing(self):
        own, other = [(1, 2, 10 ** 12), (2, 2, -10 ** 12)], [(1, 2, -3), (2, 1, 3)]
        self.assertEqual([(side, line[0]) for side, line in sequence(own, other)],
                         [("other", 2), ("own", 1), ("own", 2), ("other", 1)])

    def test_any_sequence_of_the_books(self):
        own = [(1, 2, 5), (2, 0, 5), (3, 2, 6)]
        other = [(1, 2, 5), (2, 1, 5), (4, 0, 6)]
        expected = [("own", (2, 0, 5)), ("other", (4, 0, 6)), ("other", (2, 1, 5)),
                    ("own", (1, 2, 5)), ("own", (3, 2, 6)), ("other", (1, 2, 5))]
        for one in itertools.permutations(own):
            for two in itertools.permutations(other):
                self.assertEqual(sequence(list(one), list(two)), expected)

    def test_new_and_nothing_changed(self):
        own, other = [(2, 4, 5), (1, 0, 5)], [(7, 3, 5), (6, 3, 5)]
        before = (list(own), list(other))
        first = sequence(own, other)
        self.assertIsInstance(first, list)
        self.assertEqual([type(row) for row in first], [tuple] * 4)
        expected = list(first)
        first.clear()
        self.assertEqual(sequence(own, other), expected)
        self.assertEqual((own, other), before)


class LinesOfTest(unittest.TestCase):
    def test_by_day_then_id(self):
        book = [(10, 4, 100), (9, 4, 100), (11, 0, 100), (1, 7, 100), (2, 10, 100)]
        self.assertEqual(lines_of(book, 100), [(11, 0, 100), (9, 4, 100), (10, 4, 100), (1, 7, 100), (2, 10, 100)])

    def test_only_this_amount(self):
        book = [(1, 4, 100), (2, 0, -100), (3, 2, 1000), (4, 1, 99), (5, 1, 101), (6, 0, 100)]
        self.assertEqual(lines_of(book, 100), [(6, 0, 100), (1, 4, 100)])
        self.assertEqual(lines_of(book, -100), [(2, 0, -100)])
        self.assertEqual(lines_of(book, 7), [])
        self.assertEqual(lines_of([(1, 7, 100)], 7), [])
        self.assertEqual(lines_of([(7, 1, 100)], 7), [])

    def test_empty_book(self):
        self.assertEqual(lines_of([], 100), [])

    def test_new_and_nothing_changed(self):
        for book in ([(1, 0, 5), (2, 0, 5)], [(2, 3, 5), (1, 0, 5), (3, 0, 6)], []):
            before = list(book)
            first = lines_of(book, 5)
            self.assertIsInstance(first, list)
            self.assertIsNot(first, book)
            expected = list(first)
            first.append("more")
            self.assertEqual(lines_of(book, 5), expected)
            self.assertEqual(book, before)


class AmountsOfTest(unittest.TestCase):
    def test_amounts_of_both_books_ascending(self):
        own = [(1, 0, 100), (2, 0, -5), (3, 0, 20), (4, 0, -30), (5, 0, 7)]
        other = [(1, 9, 20), (2, 9, 100), (3, 9, -30), (4, 9, -5), (5, 9, 8)]
        self.assertEqual(amounts_of(own, other), [-30, -5, 20, 100])

    def test_each_amount_once(self):
        own = [(1, 0, 100), (2, 3, 100), (3, 3, 100)]
        other = [(1, 0, 100), (2, 3, 100)]
        self.assertEqual(amounts_of(own, other), [100])

    def test_amounts_that_one_book_alone_has(self):
        self.assertEqual(amounts_of([(1, 0, 100), (2, 0, 5)], [(1, 0, 100)]), [100])
        self.assertEqual(amounts_of([(1, 0, 100)], [(1, 0, 100), (2, 0, 5)]), [100])
        self.assertEqual(amounts_of([(1, 0, 5)], [(1, 0, -5)]), [])
        self.assertEqual(amounts_of([(1, 5, 9)], [(9, 5, 1)]), [])

    def test_empty_books(self):
        self.assertEqual(amounts_of([], []), [])
        self.assertEqual(amounts_of([(1, 0, 5)], []), [])
        self.assertEqual(amounts_of([], [(1, 0, 5)]), [])

    def test_new_and_nothing_changed(self):
        own, other = [(2, 0, 5), (1, 0, -7), (3, 0, 9)], [(9, 0, 9), (8, 0, 5), (7, 0, -7)]
        before = (list(own), list(other))
        first = amounts_of(own, other)
        self.assertIsInstance(first, list)
        first.clear()
        self.assertEqual(amounts_of(own, other), [-7, 5, 9])
        self.assertEqual((own, other), before)


if __name__ == "__main__":
    unittest.main()

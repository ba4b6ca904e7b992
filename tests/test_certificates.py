"""Gains, certificates of best matchings, and any values that are no certificates."""

import copy
import inspect
import itertools
import random
import unittest

import trying
from matchlines import certificates as module
from matchlines.certificates import certificate, gains, is_certificate
from matchlines.prices import matching_at, worth_at
from matchlines.steps import best_matching, steps

PARAMETERS = {
    "gains": ["own", "other", "price"],
    "certificate": ["own", "other", "price"],
    "is_certificate": ["own", "other", "price", "pairs", "value"],
}

# At a price of 5 the pair is worth 3; the lines 2 and 4 are left over.
OWN = [(1, 10, 5), (2, 0, 7)]
OTHER = [(1, 12, 5), (4, 90, 5)]
PAIRS = [(1, 1)]


def without(book, row_id):
    return [line for line in book if line[0] != row_id]


def plainly_certifies(own, other, price, pairs, value):
    """Whether two dicts with the right ids and numbers from 0 on are a certificate."""
    own_numbers, other_numbers = value
    for line, after in itertools.product(own, other):
        if line[2] == after[2] and own_numbers[line[0]] + other_numbers[after[0]] < price - abs(line[1] - after[1]):
            return False
    worth = price * len(pairs) - trying.plain_cost(own, other, pairs)
    return sum(own_numbers.values()) + sum(other_numbers.values()) == worth


class InterfaceTest(unittest.TestCase):
    def test_functions_are_defined_here_with_the_names_shown(self):
        for name, parameters in PARAMETERS.items():
            with self.subTest(name):
                told = getattr(module, name)
                self.assertEqual((told.__module__, told.__name__), ("matchlines.certificates", name))
                self.assertEqual(list(inspect.signature(told).parameters), parameters)

    def test_arguments_by_name(self):
        self.assertEqual(gains(price=5, other=OTHER, own=OWN), ({1: 3, 2: 0}, {1: 3, 4: 0}))
        self.assertEqual(certificate(price=5, other=OTHER, own=OWN), ({1: 3, 2: 0}, {1: 0, 4: 0}))
        value = ({1: 1, 2: 0}, {1: 2, 4: 0})
        self.assertIs(is_certificate(value=value, pairs=PAIRS, price=5, other=OTHER, own=OWN), True)


class GainsTest(unittest.TestCase):
    """Against the greatest worths with and without each line."""

    def check(self, own, other, price, worth):
        total = worth(own, other, price)
        expected = (
            {line[0]: total - worth(without(own, line[0]), other, price) for line in own},
            {line[0]: total - worth(own, without(other, line[0]), price) for line in other},
        )
        self.assertEqual(gains(own, other, price), expected, (own, other, price))

    def tried_worth(self, own, other, price):
        return trying.greatest(own, other, trying.all_matchings(own, other), price)[0]

    def test_edges(self):
        for own, other in trying.edge_books():
            for price in trying.prices_around([step[0] for step in steps(own, other)]):
                self.check(own, other, price, self.tried_worth)

    def test_all_days_of_three_lines_each(self):
        for days in itertools.combinations_with_replacement((0, 1, 2, 4), 6):
            own, other = list(zip((2, 1, 3), days[::2], (5,) * 3)), list(zip((1, 3, 2), days[1::2], (5,) * 3))
            for price in (0, 1, 2, 3, 9):
                self.check(own, other, price, self.tried_worth)

    def test_drawn_books(self):
        for own, other in trying.drawn_books(9, 150, most=3):
            for price in trying.prices_around([step[0] for step in steps(own, other)]):
                self.check(own, other, price, self.tried_worth)

    def test_larger_books(self):
        draw = random.Random(91)
        for days, price in [(8, 3), (60, 7), (10 ** 6, 40000), (60, trying.MOST_PRICE)]:
            own, other = [trying.full_book(draw, 12, days, [4, -4]) for _ in range(2)]
            self.check(own, other[:20], price, worth_at)

    def test_no_gain_at_0(self):
        self.assertEqual(gains([(1, 3, 5)], [(7, 3, 5)], 0), ({1: 0}, {7: 0}))

    def test_only_one_line_can_be_spared(self):
        own, other = [(1, 0, 5)], [(1, 2, 5), (2, 9, 5)]
        self.assertEqual(gains(own, other, 5), ({1: 3}, {1: 3, 2: 0}))
        self.assertEqual(gains(own, other, 20), ({1: 18}, {1: 7, 2: 0}))

    def test_empty_books(self):
        self.assertEqual(gains([], [], 7), ({}, {}))
        self.assertEqual(gains([(1, 0, 5)], [], 7), ({1: 0}, {}))
        self.assertEqual(gains([], [(1, 0, 5)], 7), ({}, {1: 0}))


class CertificateTest(unittest.TestCase):
    def check(self, own, other, price):
        pairs = matching_at(own, other, price)
        told = certificate(own, other, price)
        own_numbers, other_numbers = told
        self.assertEqual([sorted(own_numbers), sorted(other_numbers)], [sorted(line[0] for line in book) for book in (own, other)])
        self.assertGreaterEqual(min([0, *own_numbers.values(), *other_numbers.values()]), 0, (own, other, price))
        self.assertTrue(plainly_certifies(own, other, price, pairs, told), (own, other, price))
        self.assertIs(is_certificate(own, other, price, pairs, told), True, (own, other, price))
        own_gains = gains(own, other, price)[0]
        self.assertEqual(own_numbers, own_gains)
        expected = {line[0]: 0 for line in other}
        for pair in pairs:
            expected[pair[1]] = price - trying.plain_cost(own, other, [pair]) - own_gains[pair[0]]
        self.assertEqual(other_numbers, expected)

    def test_edges(self):
        for own, other in trying.edge_books():
            for price in trying.prices_around([step[0] for step in steps(own, other)]):
                self.check(own, other, price)

    def test_drawn_books(self):
        for own, other in trying.drawn_books(92, 200, most=7):
            for price in trying.prices_around([step[0] for step in steps(own, other)]):
                self.check(own, other, price)

    def test_larger_books(self):
        draw = random.Random(93)
        for days, price in [(8, 0), (8, 1), (60, 7), (10 ** 6, 40000), (60, trying.MOST_PRICE)]:
            own, other = [trying.full_book(draw, 30, days, [4, -4]) for _ in range(2)]
            self.check(own, other, price)
            self.check(own, other[:35], price)
            self.check(own[:35], other, price)

    def test_empty_books(self):
        self.assertEqual(certificate([], [], 3), ({}, {}))
        self.assertEqual(certificate([(2, 0, 5)], [(3, 0, -5)], 3), ({2: 0}, {3: 0}))


class IsCertificateTest(unittest.TestCase):
    def told(self, value, own=OWN, other=OTHER, price=5, pairs=PAIRS):
        before = repr(value)
        answer = is_certificate(own, other, price, pairs, value)
        self.assertEqual(repr(value), before)
        self.assertIsInstance(answer, bool)
        return answer

    def test_certificates(self):
        for number in range(4):
            self.assertTrue(self.told(({1: number, 2: 0}, {1: 3 - number, 4: 0})))

    def test_order_of_keys_means_nothing(self):
        self.assertTrue(self.told(({2: 0, 1: 1}, {4: 0, 1: 2})))

    def test_all_small_numbers(self):
        own, other = [(1, 0, 5), (2, 4, 5)], [(1, 3, 5), (2, 5, 5)]
        for price in (0, 2, 3, 4):
            for pairs in trying.all_matchings(own, other):
                for row in itertools.product(range(4), repeat=4):
                    value = ({1: row[0], 2: row[1]}, {1: row[2], 2: row[3]})
                    expected = plainly_certifies(own, other, price, pairs, value)
                    self.assertIs(self.told(value, own, other, price, pairs), expected, (price, pairs, value))

    def test_number_too_small_by_one(self):
        for value in [({1: 0, 2: 0}, {1: 2, 4: 0}), ({1: 2, 2: 0}, {1: 0, 4: 0})]:
            self.assertFalse(self.told(value))
        # The sum is made up for elsewhere, but the pair lacks 1.
        self.assertFalse(self.told(({1: 1, 2: 1}, {1: 1, 4: 0})))
        self.assertFalse(self.told(({1: 1, 2: 0}, {1: 1, 4: 1})))

    def test_sum_is_not_the_worth(self):
        for value in [({1: 4, 2: 0}, {1: 0, 4: 0}), ({1: 3, 2: 1}, {1: 0, 4: 0}), ({1: 3, 2: 0}, {1: 0, 4: 1})]:
            self.assertFalse(self.told(value))

    def test_keys(self):
        self.assertTrue(self.told(({1: 3, 2: 0}, {1: 0, 4: 0})))
        for value in [
            ({1: 3}, {1: 0, 4: 0}), ({1: 3, 2: 0}, {1: 0}), ({1: 3, 2: 0, 3: 0}, {1: 0, 4: 0}), ({}, {1: 3, 4: 0}),
            ({1: 3, 2: 0}, {1: 0, 4: 0, 2: 0}), ({1: 3, 4: 0}, {1: 0, 2: 0}), ({1: 3, 3: 0}, {1: 0, 4: 0}),
            ({1: 3, 2: 0}, {1: 0, 5: 0}), ({True: 3, 2: 0}, {1: 0, 4: 0}), ({1: 3, 2: 0}, {True: 0, 4: 0}),
            ({1: 3, "2": 0}, {1: 0, 4: 0}), ({1: 3, None: 0}, {1: 0, 4: 0}), ({1: 3, (2,): 0}, {1: 0, 4: 0}),
            ({1: 3, 2: 0}, {1: 0, "": 0}), ({1: 3, 2: 0}, {1: 0, (): 0}), ({1: 3, 2: 0, False: 0}, {1: 0, 4: 0}),
        ]:
            self.assertFalse(self.told(value), value)

    def test_numbers(self):
        for number in [False, None, -1, "", "0", (), [], {}, (0,), [0], {0: 0}]:
            self.assertFalse(self.told(({1: 3, 2: number}, {1: 0, 4: 0})), number)
            self.assertFalse(self.told(({1: 3, 2: 0}, {1: 0, 4: number})), number)
        self.assertFalse(self.told(({1: True, 2: 0}, {1: 2, 4: 0})))
        self.assertFalse(self.told(({1: 2, 2: 0}, {1: True, 4: 0})))

    def test_negative_numbers(self):
        self.assertFalse(self.told(({1: 4, 2: -1}, {1: 0, 4: 0})))
        self.assertFalse(self.told(({1: 4, 2: 0}, {1: -1, 4: 0})))
        self.assertFalse(self.told(({1: -1, 2: 0}, {1: 4, 4: 0})))

    def test_kinds(self):
        own_numbers, other_numbers = {1: 3, 2: 0}, {1: 0, 4: 0}
        self.assertTrue(self.told((own_numbers, other_numbers)))
        for value in [
            [own_numbers, other_numbers], (own_numbers,), (own_numbers, other_numbers, {}), (), own_numbers,
            (list(own_numbers.items()), other_numbers), (own_numbers, [0, 0]), (own_numbers, None), (None, other_numbers),
            ([1, 2], other_numbers), (own_numbers, (1, 4)), {1: own_numbers, 2: other_numbers}, ((own_numbers, other_numbers),),
            ("12", other_numbers), (own_numbers, "14"), {"own": own_numbers, "other": other_numbers}, "ab", "", None, True,
            0, 3, ({}, {}), [], {}, (3, 0), ("", ""), (True, False),
        ]:
            self.assertFalse(self.told(value), value)

    def test_any_values_with_empty_books(self):
        self.assertTrue(self.told(({}, {}), [], [], 5, []))
        for value in [*trying.no_numbers(), [{}, {}], ((), ()), ([], []), ({}, []), ([], {}), ({}, None), ({},), ({}, {}, {}), "{}"]:
            self.assertFalse(self.told(value, [], [], 5, []), value)

    def test_matching_of_less_worth_has_none(self):
        own, other = trying.EXAMPLE_OWN, trying.EXAMPLE_OTHER
        for pairs in trying.all_matchings(own, other):
            if trying.plain_cost(own, other, pairs) != 4 or len(pairs) != 2:
                for row in itertools.product(range(6), repeat=4):
                    self.assertFalse(self.told(({1: row[0], 2: row[1]}, {1: row[2], 2: row[3]}), own, other, 5, pairs))
        value = certificate(own, other, 5)
        self.assertTrue(self.told(value, own, other, 5, [(1, 1), (2, 2)]))
        self.assertFalse(self.told(value, own, other, 5, [(1, 2), (2, 1)]))
        self.assertFalse(self.told(value, own, other, 5, best_matching(own, other, 1)))

    def test_other_matchings_of_greatest_worth_have_the_same(self):
        own, other = [(1, 5, 5), (2, 5, 5)], [(1, 5, 5), (2, 9, 5), (3, 1, 5)]
        value = certificate(own, other, 4)
        for pairs in trying.greatest(own, other, trying.all_matchings(own, other), 4)[1]:
            self.assertTrue(self.told(value, own, other, 4, pairs), pairs)

    def test_lines_of_other_amounts_need_no_number(self):
        own, other = [(1, 0, 5), (2, 0, 6)], [(1, 0, 6), (2, 0, 5)]
        self.assertTrue(self.told(({1: 9, 2: 0}, {1: 9, 2: 0}), own, other, 9, [(1, 2), (2, 1)]))
        self.assertFalse(self.told(({1: 9, 2: 9}, {1: 0, 2: -1}), own, other, 9, [(1, 2), (2, 1)]))


class UnchangedTest(unittest.TestCase):
    def test_arguments_stay_and_answers_are_new(self):
        for own, other in trying.edge_books():
            kept = copy.deepcopy((own, other))
            told = [*gains(own, other, 4), *certificate(own, other, 4)]
            again = copy.deepcopy(told)
            pairs = matching_at(own, other, 4)
            is_certificate(own, other, 4, pairs, certificate(own, other, 4))
            for value in told:
                value.clear()
            self.assertEqual((own, other), kept)
            self.assertEqual(pairs, matching_at(own, other, 4))
            self.assertEqual([*gains(own, other, 4), *certificate(own, other, 4)], again)

    def test_kinds(self):
        for told in (gains(OWN, OTHER, 5), certificate(OWN, OTHER, 5)):
            self.assertEqual([type(told), type(told[0]), type(told[1])], [tuple, dict, dict])
            self.assertEqual({type(number) for numbers in told for row in numbers.items() for number in row}, {int})


if __name__ == "__main__":
    unittest.main()

"""Level functions, the lowest and the highest levels, and the marks of lines."""

import copy
import itertools
import random
import unittest

import trying
from matchlines import levels as module
from matchlines.certificates import gains
from matchlines.levels import are_levels, highest_levels, levels_total, lowest_levels, marks
from matchlines.prices import line_prices, worth_at
from matchlines.steps import steps
from matchlines.sure import line_states

PARAMETERS = {
    "are_levels": ["own", "other", "amount", "price", "value"],
    "levels_total": ["own", "other", "amount", "price", "levels"],
    "lowest_levels": ["own", "other", "amount", "price"],
    "highest_levels": ["own", "other", "amount", "price"],
    "marks": ["own", "other"],
}


def of_amount(book, amount):
    return [line for line in book if line[2] == amount]


def days_of(own, other, amount):
    return sorted({line[1] for line in own + other if line[2] == amount})


def plain_worth(own, other, price):
    """The greatest worth, from all matchings."""
    return trying.greatest(own, other, trying.all_matchings(own, other), price)[0]


def plain_levels(own, other, amount, price, worth):
    """The lowest and the highest levels, by putting one more line on each day."""
    own, other = of_amount(own, amount), of_amount(other, amount)
    total = worth(own, other, price)
    lowest, highest = {}, {}
    for day in days_of(own, other, amount):
        lowest[day] = worth(own + [(10 ** 6, day, amount)], other, price) - total
        highest[day] = price - (worth(own, other + [(10 ** 6, day, amount)], price) - total)
    return lowest, highest


class InterfaceTest(unittest.TestCase):
    def test_functions_are_defined_here_with_the_names_shown(self):
        trying.check_interface(self, module, PARAMETERS)

    def test_arguments_by_name(self):
        own, other = trying.EXAMPLE_OWN, trying.EXAMPLE_OTHER
        told = lowest_levels(price=5, amount=100, other=other, own=own)
        self.assertEqual(told, {0: 0, 3: 3, 4: 2, 5: 3})
        self.assertEqual(highest_levels(price=5, amount=100, other=other, own=own), {0: 2, 3: 5, 4: 4, 5: 5})
        self.assertIs(are_levels(value=told, price=5, amount=100, other=other, own=own), True)
        self.assertEqual(levels_total(levels=told, price=5, amount=100, other=other, own=own), 6)
        self.assertEqual(marks(other=other, own=own), ({1: (3, 3, 4), 2: (1, 1, 2)}, {1: (1, 1, 4), 2: (1, 3, 4)}))


class AreLevelsTest(unittest.TestCase):
    OWN = [(1, 0, 5), (2, 4, 5), (3, 9, 7)]
    OTHER = [(1, 1, 5), (2, 4, 5), (3, 8, -7)]
    RIGHT = {0: 2, 1: 3, 4: 0}

    def check(self, value, is_right, amount=5, price=6):
        self.assertIs(are_levels(self.OWN, self.OTHER, amount, price, value), is_right, value)

    def test_right(self):
        self.check(self.RIGHT, True)
        for level in range(7):
            self.check({0: level, 1: level, 4: level}, True)
        self.check({4: 6, 1: 5, 0: 4}, True)
        self.check({9: 0}, True, amount=7)
        self.check({8: 6}, True, amount=-7)

    def test_a_day_missing_or_one_too_many(self):
        for day in self.RIGHT:
            self.check({key: level for key, level in self.RIGHT.items() if key != day}, False)
        for day in (2, 5, 9, -1, 10 ** 6):
            self.check({**self.RIGHT, day: 0}, False)
            self.check({0: 0, 1: 0, day: 0}, False)
        self.check({}, False)

    def test_true_and_false_are_no_days(self):
        self.check({0: 2, True: 3, 4: 0}, False)
        self.check({False: 2, 1: 3, 4: 0}, False)
        self.check({0: 0, True: 1, 4: 0}, False)
        self.assertIs(are_levels([(1, 1, 5)], [], 5, 6, {True: 0}), False)
        self.assertIs(are_levels([(1, 0, 5)], [], 5, 6, {False: 0}), False)

    def test_true_and_false_are_no_levels(self):
        for level in (True, False):
            for day in self.RIGHT:
                self.check({**{key: 1 for key in self.RIGHT}, day: level}, False)

    def test_levels_out_of_bounds(self):
        for day in self.RIGHT:
            self.check({**{key: 0 for key in self.RIGHT}, day: -1}, False)
            self.check({**{key: 6 for key in self.RIGHT}, day: 7}, False)
        self.check({0: 0, 1: 0, 4: 0}, True, price=0)
        self.check({0: 1, 1: 0, 4: 0}, False, price=0)
        self.check({0: 10 ** 12, 1: 10 ** 12, 4: 10 ** 12}, True, price=10 ** 12)

    def test_neighbours(self):
        self.check({0: 2, 1: 1, 4: 4}, True)
        self.check({0: 2, 1: 3, 4: 6}, True)
        self.check({0: 3, 1: 1, 4: 1}, False)
        self.check({0: 1, 1: 3, 4: 3}, False)
        self.check({0: 1, 1: 1, 4: 5}, False)
        self.check({0: 5, 1: 5, 4: 1}, False)

    def test_any_values(self):
        wrong = trying.any_values() + trying.no_numbers() + trying.wrong_integers()
        for value in wrong:
            self.check(value, False)
            self.assertIs(are_levels([], [], 5, 6, value), value == {})
        for level in wrong:
            if type(level) is not int or level < 0 or level > 6:
                self.check({0: 0, 1: level, 4: 0}, False)
        self.check([(0, 2), (1, 3), (4, 0)], False)
        self.check([2, 3, 0], False)
        self.check({"0": 2, "1": 3, "4": 0}, False)
        self.check({(0,): 2, (1,): 3, (4,): 0}, False)
        self.check({None: 2, 1: 3, 4: 0}, False)
        self.check((self.RIGHT,), False)

    def test_an_amount_that_no_line_has(self):
        for amount in (6, -5, 10 ** 12):
            self.check({}, True, amount=amount)
            self.check({0: 0}, False, amount=amount)
            self.assertEqual(levels_total(self.OWN, self.OTHER, amount, 6, {}), 0)
            self.assertEqual(lowest_levels(self.OWN, self.OTHER, amount, 6), {})
            self.assertEqual(highest_levels(self.OWN, self.OTHER, amount, 6), {})

    def test_all_values_of_a_small_book(self):
        own, other, price = [(1, 0, 5), (2, 3, 5)], [(1, 2, 5)], 3
        for rows in itertools.product(range(-1, 5), repeat=3):
            value = dict(zip((0, 2, 3), rows))
            is_right = all(0 <= level <= 3 for level in rows) and abs(rows[0] - rows[1]) <= 2 and abs(rows[1] - rows[2]) <= 1
            self.assertIs(are_levels(own, other, 5, price, value), is_right, value)


class TotalTest(unittest.TestCase):
    def test_known(self):
        own, other = trying.EXAMPLE_OWN, trying.EXAMPLE_OTHER
        self.assertEqual(levels_total(own, other, 100, 5, {0: 0, 3: 3, 4: 2, 5: 3}), 0 + 2 + 2 + 2)
        self.assertEqual(levels_total(own, other, 100, 5, {0: 5, 3: 5, 4: 5, 5: 5}), 10)
        self.assertEqual(levels_total(own, other, 100, 0, {0: 0, 3: 0, 4: 0, 5: 0}), 0)

    def test_several_lines_on_a_day_and_other_amounts(self):
        own, other = [(1, 0, 5), (2, 0, 5), (3, 0, 6)], [(1, 0, 5), (2, 3, 5), (3, 3, 5), (4, 3, 7)]
        self.assertEqual(levels_total(own, other, 5, 10, {0: 1, 3: 4}), 2 * 1 + 9 + 2 * 6)
        self.assertEqual(levels_total(own, other, 6, 10, {0: 4}), 4)
        self.assertEqual(levels_total(own, other, 7, 10, {3: 4}), 6)

    def test_no_matching_is_worth_more(self):
        own, other, price = [(1, 0, 5), (2, 3, 5)], [(1, 2, 5), (2, 2, 5)], 3
        greatest = plain_worth(own, other, price)
        found = []
        for rows in itertools.product(range(4), repeat=3):
            value = dict(zip((0, 2, 3), rows))
            if are_levels(own, other, 5, price, value):
                found.append(levels_total(own, other, 5, price, value))
        self.assertEqual(min(found), greatest)


class LowestAndHighestTest(unittest.TestCase):
    def check(self, own, other, amount, price, worth):
        kept = copy.deepcopy((own, other))
        lowest, highest = lowest_levels(own, other, amount, price), highest_levels(own, other, amount, price)
        self.assertEqual((lowest, highest), plain_levels(own, other, amount, price, worth), (own, other, amount, price))
        total = worth(of_amount(own, amount), of_amount(other, amount), price)
        for levels in (lowest, highest):
            self.assertIs(type(levels), dict)
            self.assertIs(are_levels(own, other, amount, price, levels), True, (own, other, amount, price))
            self.assertEqual(levels_total(own, other, amount, price, levels), total, (own, other, amount, price))
        self.assertEqual((own, other), kept)
        return lowest, highest

    def test_edges(self):
        for own, other in trying.edge_books():
            for amount in sorted({line[2] for line in own + other} | {77}):
                for price in trying.prices_around([step[0] for step in steps(own, other)]):
                    self.check(own, other, amount, price, plain_worth)

    def test_drawn_books(self):
        for own, other in trying.drawn_books(17, 150):
            for amount, price in itertools.product((5, -5), (0, 1, 2, 3, 6, 50)):
                self.check(own, other, amount, price, plain_worth)

    def test_larger_books(self):
        draw = random.Random(171)
        for days, price in [(9, 3), (60, 7), (10 ** 6, 40000), (60, trying.MOST_PRICE), (60, 0)]:
            own, other = trying.full_book(draw, 12, days, [4, -4]), trying.full_book(draw, 10, days, [4, -4])
            self.check(own, other, 4, price, worth_at)

    def test_price_0(self):
        own, other = trying.EXAMPLE_OWN, trying.EXAMPLE_OTHER
        self.assertEqual(self.check(own, other, 100, 0, plain_worth), ({0: 0, 3: 0, 4: 0, 5: 0},) * 2)

    def test_an_amount_that_one_book_alone_has(self):
        own, other = [(1, 3, 5), (2, 9, 5)], [(1, 0, 7), (2, 4, 7), (3, 4, 7)]
        for price in (0, 1, 6, trying.MOST_PRICE):
            self.assertEqual(self.check(own, other, 5, price, plain_worth), ({3: 0, 9: 0}, {3: 0, 9: 0}))
            self.assertEqual(self.check(own, other, 7, price, plain_worth), ({0: price, 4: price},) * 2)

    def test_several_lines_on_a_day(self):
        own, other = [(1, 3, 5), (2, 3, 5), (3, 3, 5)], [(1, 3, 5), (2, 4, 5)]
        self.assertEqual(self.check(own, other, 5, 9, plain_worth), ({3: 0, 4: 1}, {3: 0, 4: 1}))
        self.assertEqual(self.check(own[:2], other, 5, 9, plain_worth), ({3: 0, 4: 1}, {3: 8, 4: 9}))

    def test_gains_lie_at_them(self):
        for own, other in trying.drawn_books(172, 60, most=6):
            own_gains, other_gains = gains(own, other, 4)
            for row_id, day, amount in own:
                self.assertEqual(own_gains[row_id], highest_levels(own, other, amount, 4)[day])
            for row_id, day, amount in other:
                self.assertEqual(other_gains[row_id], 4 - lowest_levels(own, other, amount, 4)[day])

    def test_every_level_function_with_this_total_lies_between_them(self):
        for own, other in [(trying.EXAMPLE_OWN, trying.EXAMPLE_OTHER), ([(1, 0, 100), (2, 2, 100)], [(1, 1, 100), (2, 4, 100)])]:
            for price in range(6):
                self.check_between(own, other, price)

    def check_between(self, own, other, price):
        days = days_of(own, other, 100)
        lowest, highest = lowest_levels(own, other, 100, price), highest_levels(own, other, 100, price)
        found = []
        for rows in itertools.product(range(price + 1), repeat=len(days)):
            value = dict(zip(days, rows))
            if are_levels(own, other, 100, price, value):
                if levels_total(own, other, 100, price, value) == plain_worth(own, other, price):
                    found.append(value)
        for day in days:
            self.assertEqual(lowest[day], min(value[day] for value in found))
            self.assertEqual(highest[day], max(value[day] for value in found))

    def test_answers_are_new(self):
        own, other = trying.EXAMPLE_OWN, trying.EXAMPLE_OTHER
        for told in (lowest_levels, highest_levels):
            kept = told(own, other, 100, 5)
            told(own, other, 100, 5).clear()
            self.assertEqual(told(own, other, 100, 5), kept)


class MarksTest(unittest.TestCase):
    """Against all matchings of greatest worth, price by price."""

    def check(self, own, other, most):
        """All steps have less days than the most."""
        told = marks(own, other)
        matchings = trying.all_matchings(own, other)
        states = [states_of(own, other, matchings, price) for price in range(most + 1)]
        for side, book in enumerate((own, other)):
            self.assertEqual(sorted(told[side]), sorted(line[0] for line in book))
            for line in book:
                rows = [state[side][line[0]] for state in states]
                first = next((price for price, (is_some, _) in enumerate(rows) if is_some), None)
                sure = next((price for price, (_, is_all) in enumerate(rows) if is_all), None)
                # From these prices on, all the way.
                self.assertTrue(first is None or all(is_some for is_some, _ in rows[first:]))
                self.assertTrue(sure is None or all(is_all for _, is_all in rows[sure:]))
                price = line_prices(own, other)[side][line[0]]
                self.assertEqual(told[side][line[0]], (first, price, sure), (own, other, side, line))
                self.check_ascending(told[side][line[0]])

    def check_ascending(self, mark):
        self.assertIs(type(mark), tuple)
        known = [price for price in mark if price is not None]
        self.assertEqual(known, sorted(known))
        # None stands for what never comes, so only others of the kind stand behind it.
        self.assertEqual(mark, (*known, None, None, None)[:3])

    def test_edges(self):
        for own, other in trying.edge_books():
            days = [abs(line[1] - after[1]) for line in own for after in other]
            if max(days, default=0) < 100:
                self.check(own, other, max(days, default=0) + 3)

    def test_all_days_of_three_lines_and_two(self):
        for days in itertools.product((0, 1, 3), repeat=5):
            self.check(list(zip((2, 1, 3), days[:3], (5,) * 3)), list(zip((1, 3), days[3:], (5,) * 2)), 7)

    def test_drawn_books(self):
        for own, other in trying.drawn_books(18, 150):
            self.check(own, other, max(line[1] for line in own + other + [(1, 0, 1)]) + 3)

    def test_known(self):
        own, other = [(1, 0, 5), (2, 4, 5)], [(1, 2, 5)]
        self.assertEqual(marks(own, other), ({1: (2, 2, None), 2: (2, None, None)}, {1: (2, 2, 3)}))

    def test_steps_one_day_apart(self):
        own, other = [(1, 0, 5), (2, 100, 5), (3, 200, 6)], [(1, 7, 5), (2, 108, 5), (3, 209, 6)]
        expected = {1: (7, 7, 8), 2: (8, 8, 9), 3: (9, 9, 10)}
        self.assertEqual(marks(own, other), (expected, expected))

    def test_no_such_price(self):
        own, other = [(1, 0, 5), (2, 9, -5)], [(1, 0, 6), (2, 9, 7)]
        nothing = {1: (None, None, None), 2: (None, None, None)}
        self.assertEqual(marks(own, other), (nothing, nothing))
        self.assertEqual(marks([], []), ({}, {}))
        self.assertEqual(marks([(3, 0, 5)], []), ({3: (None, None, None)}, {}))
        self.assertEqual(marks([], [(3, 0, 5)]), ({}, {3: (None, None, None)}))

    def test_days_far_apart(self):
        own, other = [(1, 0, 5)], [(1, 10 ** 6, 5)]
        self.assertEqual(marks(own, other), ({1: (10 ** 6, 10 ** 6, 10 ** 6 + 1)},) * 2)
        own, other = [(1, 0, 5), (2, 1, 5)], [(1, 10 ** 6, 5), (2, 500000, 5)]
        own_marks, other_marks = marks(own, other)
        self.assertEqual(own_marks, {1: (10 ** 6, 10 ** 6, 10 ** 6 + 1), 2: (499999, 499999, 500000)})
        self.assertEqual(other_marks, {1: (10 ** 6, 10 ** 6, 10 ** 6 + 1), 2: (499999, 499999, 500000)})

    def test_larger_books_against_the_states(self):
        draw = random.Random(181)
        for days in (8, 60, 10 ** 6):
            own, other = trying.full_book(draw, 9, days, [4, -4]), trying.full_book(draw, 7, days, [4, -4])
            told = marks(own, other)
            for price in trying.prices_around([step[0] for step in steps(own, other)]):
                states = line_states(own, other, price)
                for side in (0, 1):
                    for row_id, (first, _, sure) in told[side].items():
                        is_some, is_all = first is not None and price >= first, sure is not None and price >= sure
                        self.assertEqual(states[side][row_id], "always" if is_all else "sometimes" if is_some else "never")
            for mark in [*told[0].values(), *told[1].values()]:
                self.check_ascending(mark)

    def test_arguments_stay_and_answers_are_new(self):
        own, other = list(trying.EXAMPLE_OWN), list(trying.EXAMPLE_OTHER)
        told = marks(own, other)
        self.assertEqual([type(told), type(told[0]), type(told[1])], [tuple, dict, dict])
        told[0].clear(), told[1].clear()
        self.assertEqual((own, other), (trying.EXAMPLE_OWN, trying.EXAMPLE_OTHER))
        self.assertEqual(marks(own, other), ({1: (3, 3, 4), 2: (1, 1, 2)}, {1: (1, 1, 4), 2: (1, 3, 4)}))


def states_of(own, other, matchings, price):
    """For each book a dict from ids to whether a line is in some and in all matchings of greatest worth."""
    _, rows = trying.greatest(own, other, matchings, price)
    found = {}, {}
    for side, book in enumerate((own, other)):
        for line in book:
            number = len([pairs for pairs in rows if line[0] in [pair[side] for pair in pairs]])
            found[side][line[0]] = number > 0, number == len(rows)
    return found


if __name__ == "__main__":
    unittest.main()

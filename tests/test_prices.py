"""Best matchings at a price, their worth, the prices of lines, and the prices at which pairs come."""

import copy
import inspect
import itertools
import random
import unittest

import trying
from matchlines import prices as module
from matchlines.prices import break_prices, line_prices, matching_at, pairs_at, worth_at
from matchlines.steps import best_matching, steps

PARAMETERS = {
    "matching_at": ["own", "other", "price"],
    "worth_at": ["own", "other", "price"],
    "pairs_at": ["own", "other", "price"],
    "line_prices": ["own", "other"],
    "break_prices": ["own", "other"],
}


def lines_at(own, other, price):
    """The lines of the best matching at a price."""
    return trying.lines_in(own, other, matching_at(own, other, price))


def lines_up_to(book, side, told, price):
    """The lines of a book whose price is told as one that is at most a price."""
    return {(line[1], side, line[0]) for line in book if told[line[0]] is not None and told[line[0]] <= price}


class InterfaceTest(unittest.TestCase):
    def test_functions_are_defined_here_with_the_names_shown(self):
        for name, parameters in PARAMETERS.items():
            with self.subTest(name):
                told = getattr(module, name)
                self.assertEqual((told.__module__, told.__name__), ("matchlines.prices", name))
                self.assertEqual(list(inspect.signature(told).parameters), parameters)

    def test_arguments_by_name(self):
        own, other = trying.EXAMPLE_OWN, trying.EXAMPLE_OTHER
        self.assertEqual(matching_at(price=1, other=other, own=own), [(2, 1)])
        self.assertEqual(worth_at(price=9, other=other, own=own), 14)
        self.assertEqual(pairs_at(price=9, other=other, own=own), 2)
        self.assertEqual(line_prices(other=other, own=own), ({1: 3, 2: 1}, {1: 1, 2: 3}))
        self.assertEqual(break_prices(other=other, own=own), [1, 3])


class SmallBooksTest(unittest.TestCase):
    """Against all matchings."""

    def check(self, own, other):
        matchings = trying.all_matchings(own, other)
        most = max(len(pairs) for pairs in matchings)
        bests = [trying.best_of_all(own, other, matchings, number) for number in range(most + 1)]
        least = [trying.plain_cost(own, other, pairs) for pairs in bests]
        days = [after - before for before, after in zip(least, least[1:])]
        for price in trying.prices_around(days):
            worth, rows = trying.greatest(own, other, matchings, price)
            number = len([step for step in days if step <= price])
            self.assertEqual(number, max(len(pairs) for pairs in rows), (own, other, price))
            self.assertEqual(worth_at(own, other, price), worth, (own, other, price))
            self.assertEqual(pairs_at(own, other, price), number, (own, other, price))
            self.assertEqual(matching_at(own, other, price), bests[number], (own, other, price))
            self.assertIn(matching_at(own, other, price), rows, (own, other, price))
        self.assertEqual(break_prices(own, other), sorted(set(days)))
        self.check_line_prices(own, other, bests, days)

    def check_line_prices(self, own, other, bests, days):
        expected = {line[0]: None for line in own}, {line[0]: None for line in other}
        for number, pairs in enumerate(bests):
            for pair in pairs:
                for told, row_id in zip(expected, pair):
                    if told[row_id] is None:
                        told[row_id] = days[number - 1]
        self.assertEqual(line_prices(own, other), expected, (own, other))

    def test_edges(self):
        for own, other in trying.edge_books():
            self.check(own, other)

    def test_all_days_of_three_lines_and_two(self):
        for days in itertools.product((0, 1, 3), repeat=5):
            self.check(list(zip((2, 1, 3), days[:3], (5,) * 3)), list(zip((1, 3), days[3:], (5,) * 2)))

    def test_drawn_books(self):
        for own, other in trying.drawn_books(7, 300):
            self.check(own, other)


class AtPriceTest(unittest.TestCase):
    def test_below_at_and_above_the_days_of_the_steps(self):
        own, other = [(1, 0, 5), (2, 100, 5)], [(1, 7, 5), (2, 120, 5)]
        self.assertEqual([pairs_at(own, other, price) for price in (6, 7, 8, 19, 20, 21)], [0, 1, 1, 1, 2, 2])
        self.assertEqual([worth_at(own, other, price) for price in (6, 7, 8, 19, 20, 21)], [0, 0, 1, 12, 13, 15])
        self.assertEqual([matching_at(own, other, price) for price in (6, 7, 20)], [[], [(1, 1)], [(1, 1), (2, 2)]])

    def test_steps_of_the_same_days_come_together(self):
        own, other = [(1, 0, 5), (2, 100, 5)], [(1, 7, 5), (2, 107, 5)]
        self.assertEqual([pairs_at(own, other, price) for price in (6, 7)], [0, 2])
        self.assertEqual(break_prices(own, other), [7])

    def test_no_days(self):
        own, other = [(1, 4, 5), (2, 4, 5), (3, 0, 5)], [(1, 4, 5), (2, 1, 5), (3, 4, 5)]
        self.assertEqual(matching_at(own, other, 0), [(1, 1), (2, 3)])
        self.assertEqual([worth_at(own, other, 0), pairs_at(own, other, 0)], [0, 2])
        self.assertEqual(break_prices(own, other), [0, 1])
        self.assertEqual(line_prices(own, other), ({1: 0, 2: 0, 3: 1}, {1: 0, 2: 1, 3: 0}))

    def test_price_0_without_such_a_step(self):
        own, other = trying.EXAMPLE_OWN, trying.EXAMPLE_OTHER
        self.assertEqual([matching_at(own, other, 0), worth_at(own, other, 0), pairs_at(own, other, 0)], [[], 0, 0])

    def test_greatest_price(self):
        own, other = [(1, 0, 5), (2, 10 ** 6, 5)], [(1, 10 ** 6, 5), (2, 10 ** 6, 5), (3, 0, -5)]
        self.assertEqual(matching_at(own, other, trying.MOST_PRICE), [(1, 1), (2, 2)])
        self.assertEqual(worth_at(own, other, trying.MOST_PRICE), 2 * trying.MOST_PRICE - 10 ** 6)
        self.assertEqual(break_prices(own, other), [0, 10 ** 6])

    def test_no_common_amount(self):
        own, other = [(1, 0, 5), (2, 0, 6)], [(1, 0, -5), (4, 0, 7)]
        for price in (0, 1, trying.MOST_PRICE):
            self.assertEqual([matching_at(own, other, price), worth_at(own, other, price), pairs_at(own, other, price)], [[], 0, 0])
        self.assertEqual(line_prices(own, other), ({1: None, 2: None}, {1: None, 4: None}))
        self.assertEqual(break_prices(own, other), [])

    def test_empty_books(self):
        for price in (0, trying.MOST_PRICE):
            self.assertEqual([matching_at([], [], price), worth_at([], [], price), pairs_at([], [], price)], [[], 0, 0])
        self.assertEqual([line_prices([], []), break_prices([], [])], [({}, {}), []])
        self.assertEqual(line_prices([(3, 0, 5)], []), ({3: None}, {}))

    def test_lines_that_never_join(self):
        own, other = [(1, 0, 5), (2, 9, 5), (3, 1, -5)], [(1, 8, 5), (7, 3, 6)]
        self.assertEqual(line_prices(own, other), ({1: None, 2: 1, 3: None}, {1: 1, 7: None}))

    def test_price_of_a_line_that_joins_away_from_its_pair(self):
        own, other = [(1, 0, 5), (2, 10, 5)], [(1, 8, 5), (2, 14, 5)]
        self.assertEqual(line_prices(own, other), ({1: 10, 2: 2}, {1: 2, 2: 10}))


class RisingPriceTest(unittest.TestCase):
    def check(self, own, other):
        before = set()
        own_prices, other_prices = line_prices(own, other)
        for price in trying.prices_around([step[0] for step in steps(own, other)]):
            now = lines_at(own, other, price)
            self.assertLessEqual(before, now, (own, other, price))
            self.assertEqual(matching_at(own, other, price), best_matching(own, other, pairs_at(own, other, price)))
            joined = lines_up_to(own, 0, own_prices, price) | lines_up_to(other, 1, other_prices, price)
            self.assertEqual(now, joined)
            before = now

    def test_matched_lines_stay_matched(self):
        for own, other in trying.drawn_books(71, 120, most=9):
            self.check(own, other)

    def test_larger_books(self):
        draw = random.Random(72)
        for days in (20, 10 ** 6):
            own, other = [trying.full_book(draw, 30, days, [4, -4]) for _ in range(2)]
            self.check(own, other)
            bests, _ = trying.plain_bests_of_books(own, other)
            for price in break_prices(own, other):
                worths = [number * price - cost for number, (cost, _) in enumerate(bests)]
                self.assertEqual(worth_at(own, other, price), max(worths))
                self.assertEqual(pairs_at(own, other, price), max(at for at, worth in enumerate(worths) if worth == max(worths)))


class UnchangedTest(unittest.TestCase):
    def test_arguments_stay_and_answers_are_new(self):
        for own, other in trying.edge_books():
            kept = copy.deepcopy((own, other))
            told = [matching_at(own, other, 5), break_prices(own, other), *line_prices(own, other)]
            again = copy.deepcopy(told)
            worth_at(own, other, 5), pairs_at(own, other, 5)
            for value in told:
                value.clear()
            self.assertEqual((own, other), kept)
            self.assertEqual([matching_at(own, other, 5), break_prices(own, other), *line_prices(own, other)], again)

    def test_kinds(self):
        own, other = trying.EXAMPLE_OWN, trying.EXAMPLE_OTHER
        told = line_prices(own, other)
        self.assertEqual([type(told), type(told[0]), type(told[1])], [tuple, dict, dict])
        self.assertEqual([type(matching_at(own, other, 3)), type(break_prices(own, other))], [list, list])
        numbers = [worth_at(own, other, 3), pairs_at(own, other, 3), *break_prices(own, other), *told[0].values()]
        self.assertEqual({type(number) for number in numbers}, {int})


if __name__ == "__main__":
    unittest.main()

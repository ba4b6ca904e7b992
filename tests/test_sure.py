"""Lines and pairs that are in all, in some or in none of the matchings of greatest worth."""

import copy
import inspect
import itertools
import random
import unittest

import trying
from matchlines import sure as module
from matchlines.prices import matching_at, worth_at
from matchlines.steps import steps
from matchlines.sure import line_states, pair_states, sure_pairs

PARAMETERS = {
    "line_states": ["own", "other", "price"],
    "pair_states": ["own", "other", "price"],
    "sure_pairs": ["own", "other", "price"],
}


def word(answers):
    """The word for what was answered for each matching of greatest worth."""
    if all(answers):
        return "always"
    return "sometimes" if any(answers) else "never"


def without(book, row_id):
    return [line for line in book if line[0] != row_id]


class InterfaceTest(unittest.TestCase):
    def test_functions_are_defined_here_with_the_names_shown(self):
        for name, parameters in PARAMETERS.items():
            with self.subTest(name):
                told = getattr(module, name)
                self.assertEqual((told.__module__, told.__name__), ("matchlines.sure", name))
                self.assertEqual(list(inspect.signature(told).parameters), parameters)

    def test_arguments_by_name(self):
        own, other = [(1, 0, 5)], [(2, 3, 5), (3, 9, 5)]
        self.assertEqual(line_states(price=4, other=other, own=own), ({1: "always"}, {2: "always", 3: "never"}))
        self.assertEqual(pair_states(price=4, other=other, own=own), {(1, 2): "always", (1, 3): "never"})
        self.assertEqual(list(sure_pairs(price=4, other=other, own=own)), [(1, 2)])

    def test_sure_pairs_are_yielded(self):
        told = sure_pairs(trying.EXAMPLE_OWN, trying.EXAMPLE_OTHER, 5)
        self.assertIs(iter(told), told)
        self.assertEqual([next(told), next(told), next(told, None)], [(1, 1), (2, 2), None])


class SmallBooksTest(unittest.TestCase):
    """Against all matchings of greatest worth."""

    def check(self, own, other, prices=None):
        matchings = trying.all_matchings(own, other)
        for price in trying.prices_around([step[0] for step in steps(own, other)]) if prices is None else prices:
            rows = trying.greatest(own, other, matchings, price)[1]
            lines = [
                {line[0]: word([line[0] in [pair[side] for pair in pairs] for pairs in rows]) for line in book}
                for side, book in enumerate((own, other))
            ]
            pairs = {
                (line[0], after[0]): word([(line[0], after[0]) in pairs for pairs in rows])
                for line in own for after in other if line[2] == after[2]
            }
            self.assertEqual(line_states(own, other, price), tuple(lines), (own, other, price))
            self.assertEqual(pair_states(own, other, price), pairs, (own, other, price))
            always = sorted(pair for pair in pairs if pairs[pair] == "always")
            self.assertEqual(list(sure_pairs(own, other, price)), always, (own, other, price))

    def test_edges(self):
        for own, other in trying.edge_books():
            self.check(own, other)

    def test_all_days_of_three_lines_each(self):
        for days in itertools.combinations_with_replacement((0, 1, 2, 4), 6):
            for at in ((0, 2, 4, 1, 3, 5), (0, 1, 5, 2, 3, 4), (0, 1, 2, 3, 4, 5), (1, 2, 3, 0, 4, 5)):
                placed = [days[place] for place in at]
                own, other = list(zip((2, 1, 3), placed[:3], (5,) * 3)), list(zip((1, 3, 2), placed[3:], (5,) * 3))
                self.check(own, other, (0, 1, 2, 3, 9))

    def test_drawn_books(self):
        for own, other in trying.drawn_books(10, 250):
            self.check(own, other)

    def test_prices_between_the_steps(self):
        for own, other in trying.drawn_books(101, 40):
            self.check(own, other, range(12))


class StatesTest(unittest.TestCase):
    def test_price_0(self):
        # Nothing is worth anything, so pairs of the same day are made or not.
        own, other = [(1, 3, 5), (2, 3, 5), (3, 9, 5)], [(1, 3, 5), (2, 4, 5)]
        told = {1: "sometimes", 2: "sometimes", 3: "never"}, {1: "sometimes", 2: "never"}
        self.assertEqual(line_states(own, other, 0), told)
        self.assertEqual([pair for pair, state in pair_states(own, other, 0).items() if state != "never"], [(1, 1), (2, 1)])
        self.assertEqual(list(sure_pairs(own, other, 0)), [])

    def test_price_at_the_days_of_a_step(self):
        # The matching with one pair fewer is worth as much.
        own, other = trying.EXAMPLE_OWN, trying.EXAMPLE_OTHER
        self.assertEqual(line_states(own, other, 1), ({1: "never", 2: "sometimes"}, {1: "sometimes", 2: "sometimes"}))
        self.assertEqual(line_states(own, other, 3), ({1: "sometimes", 2: "always"}, {1: "sometimes", 2: "sometimes"}))
        told = {(1, 1): "sometimes", (1, 2): "never", (2, 1): "sometimes", (2, 2): "sometimes"}
        self.assertEqual(pair_states(own, other, 3), told)
        self.assertEqual(list(sure_pairs(own, other, 3)), [])

    def test_pairs_that_change_while_their_lines_stay(self):
        own, other = [(1, 0, 5), (2, 1, 5)], [(1, 7, 5), (2, 8, 5)]
        self.assertEqual(line_states(own, other, 9), ({1: "always", 2: "always"}, {1: "always", 2: "always"}))
        self.assertEqual(set(pair_states(own, other, 9).values()), {"sometimes"})
        self.assertEqual(list(sure_pairs(own, other, 9)), [])

    def test_not_in_sequence_but_as_cheap(self):
        own, other = [(1, 0, 5), (2, 4, 5), (3, 20, 5)], [(1, 4, 5), (2, 6, 5), (3, 21, 5)]
        told = pair_states(own, other, 30)
        self.assertEqual([told[1, 1], told[1, 2], told[2, 1], told[2, 2]], ["sometimes"] * 4)
        self.assertEqual(list(sure_pairs(own, other, 30)), [(3, 3)])

    def test_pair_of_two_fixed_days(self):
        # The levels are fixed by the lines that are left over; no pair of the best matching lies over the gap.
        own, other = [(1, 0, 5), (2, 4, 5)], [(1, 2, 5)]
        self.assertEqual(matching_at(own, other, 9), [(1, 1)])
        self.assertEqual(pair_states(own, other, 9), {(1, 1): "sometimes", (2, 1): "sometimes"})
        self.assertEqual(line_states(own, other, 9), ({1: "sometimes", 2: "sometimes"}, {1: "always"}))

    def test_sorted_as_numbers(self):
        own, other = [(10, 0, 5), (9, 100, 5), (2, 200, -5)], [(7, 0, 5), (12, 100, 5), (3, 200, -5)]
        self.assertEqual(list(sure_pairs(own, other, 9)), [(2, 3), (9, 12), (10, 7)])

    def test_no_common_amount(self):
        own, other = [(1, 0, 5)], [(1, 0, -5), (2, 0, 7)]
        for price in (0, 9, trying.MOST_PRICE):
            self.assertEqual(line_states(own, other, price), ({1: "never"}, {1: "never", 2: "never"}))
            self.assertEqual(pair_states(own, other, price), {})
            self.assertEqual(list(sure_pairs(own, other, price)), [])

    def test_empty_books(self):
        self.assertEqual([line_states([], [], 5), pair_states([], [], 5), list(sure_pairs([], [], 5))], [({}, {}), {}, []])
        self.assertEqual(line_states([(1, 0, 5)], [], 5), ({1: "never"}, {}))


class LargerBooksTest(unittest.TestCase):
    """Against the greatest worths without a line, and without both lines of a pair that is made by hand."""

    def check(self, own, other, price):
        total = worth_at(own, other, price)
        own_states, other_states = line_states(own, other, price)
        self.assertEqual([len(own_states), len(other_states)], [len(own), len(other)])
        made = {}
        for line, after in itertools.product(own, other):
            if line[2] == after[2]:
                rest = worth_at(without(own, line[0]), without(other, after[0]), price)
                made[line[0], after[0]] = rest + price - abs(line[1] - after[1]) == total
        told = pair_states(own, other, price)
        self.assertEqual({pair: state != "never" for pair, state in told.items()}, made)
        for line in own:
            is_always = worth_at(without(own, line[0]), other, price) < total
            partners = [pair for pair in made if made[pair] and pair[0] == line[0]]
            expected = "always" if is_always else "sometimes" if partners else "never"
            self.assertEqual(own_states[line[0]], expected)
            for pair in partners:
                self.assertEqual(told[pair], "always" if is_always and len(partners) == 1 else "sometimes")
        for line in other:
            is_always = worth_at(own, without(other, line[0]), price) < total
            partners = [pair for pair in made if made[pair] and pair[1] == line[0]]
            self.assertEqual(other_states[line[0]], "always" if is_always else "sometimes" if partners else "never")
        always = sorted(pair for pair in told if told[pair] == "always")
        self.assertEqual(list(sure_pairs(own, other, price)), always)
        self.assertLessEqual(set(always), set(matching_at(own, other, price)))

    def test_larger_books(self):
        draw = random.Random(102)
        for days, price in [(8, 0), (8, 1), (30, 2), (30, 4), (60, 7), (400, 30), (10 ** 6, 40000), (60, trying.MOST_PRICE)]:
            own, other = [trying.full_book(draw, 9, days, [4, -4]) for _ in range(2)]
            self.check(own, other, price)
            self.check(own[:11], other, price)
            self.check(own, other[:12], price)


class UnchangedTest(unittest.TestCase):
    def test_arguments_stay_and_answers_are_new(self):
        for own, other in trying.edge_books():
            kept = copy.deepcopy((own, other))
            told = [*line_states(own, other, 4), pair_states(own, other, 4)]
            again = copy.deepcopy(told)
            list(sure_pairs(own, other, 4))
            for value in told:
                value.clear()
            self.assertEqual((own, other), kept)
            self.assertEqual([*line_states(own, other, 4), pair_states(own, other, 4)], again)

    def test_kinds(self):
        told, pairs = line_states(trying.EXAMPLE_OWN, trying.EXAMPLE_OTHER, 4), pair_states([(1, 0, 5)], [(1, 0, 5)], 4)
        self.assertEqual([type(told), type(told[0]), type(told[1]), type(pairs)], [tuple, dict, dict, dict])
        self.assertEqual([type(pair) for pair in [*pairs, *sure_pairs([(1, 0, 5)], [(1, 0, 5)], 4)]], [tuple, tuple])


if __name__ == "__main__":
    unittest.main()

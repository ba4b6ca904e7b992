"""What the document promises over the whole program."""

import copy
import random
import unittest

import trying
from matchlines.books import amounts_of, lines_of, sequence
from matchlines.certificates import certificate, gains, is_certificate
from matchlines.changes import days_with, do_interlace, step_difference
from matchlines.comparison import Comparison
from matchlines.console import Console
from matchlines.levels import are_levels, highest_levels, levels_total, lowest_levels, marks
from matchlines.matchings import can_be_paired, cost_of, in_sequence, is_matching, worth_of
from matchlines.moves import is_move, moves
from matchlines.prices import break_prices, line_prices, matching_at, pairs_at, worth_at
from matchlines.reports import balance, left_lines, report
from matchlines.steps import best_matching, costs, least_cost, steps
from matchlines.sure import line_states, pair_states, sure_pairs
from matchlines.texts import book_text, comparison_text, read_book, read_comparison


def answers(own, other):
    """What each function of two books answers at some price."""
    pairs = matching_at(own, other, 4)
    own_ids, other_ids = [pair[0] for pair in pairs], [pair[1] for pair in pairs]
    number = len(steps(own, other))
    made = Comparison.made(own, other, 4, [])
    found = [
        sequence(own, other), lines_of(own, 5), lines_of(other, -5), amounts_of(own, other), pairs, steps(own, other),
        cost_of(own, other, pairs), worth_of(own, other, pairs, 4), is_matching(own, other, pairs),
        can_be_paired(own, other, own_ids, other_ids), in_sequence(own, other, own_ids, other_ids),
        best_matching(own, other, number), least_cost(own, other, number), list(costs(own, other)),
        worth_at(own, other, 4), pairs_at(own, other, 4), line_prices(own, other), break_prices(own, other),
        gains(own, other, 4), certificate(own, other, 4), line_states(own, other, 4), pair_states(own, other, 4),
        list(sure_pairs(own, other, 4)), days_with(own, other, (999, 3, 5), is_own=True),
        days_with(own, other, (999, 3, 5), is_own=False), moves([], pairs), lowest_levels(own, other, 5, 4),
        highest_levels(own, other, 5, 4), marks(own, other), book_text(own), read_book(book_text(other)),
        parts(made), made.pairs(), made.left(), made.open_own(), made.open_other(), made.open_steps(), report(made, 0, 5),
        list(left_lines(made, 0, 50)), balance(made), comparison_text(made), parts(read_comparison(comparison_text(made))),
    ]
    return found + ([step_difference(own, other, number)] if number else [])


def parts(comparison):
    return [comparison.own, comparison.other, comparison.price, comparison.confirmed]


def spoil(value):
    """Change each list and dict of a value, as its owner may."""
    if isinstance(value, (list, tuple)):
        for part in value:
            spoil(part)
    if isinstance(value, dict):
        for part in value.values():
            spoil(part)
    if isinstance(value, (list, dict)):
        value.clear()


class OverviewTest(unittest.TestCase):
    OWN = [(1, 0, 100), (2, 4, 100)]
    OTHER = [(1, 3, 100), (2, 5, 100)]

    def test_the_example(self):
        own, other = self.OWN, self.OTHER
        self.assertEqual([best_matching(own, other, 1), least_cost(own, other, 1)], [[(2, 1)], 1])
        self.assertEqual([best_matching(own, other, 2), least_cost(own, other, 2)], [[(1, 1), (2, 2)], 4])
        self.assertEqual([step[0] for step in steps(own, other)], [1, 3])
        self.assertEqual([pairs_at(own, other, price) for price in range(5)], [0, 1, 1, 2, 2])
        self.assertEqual([matching_at(own, other, price) for price in (2, 3)], [[(2, 1)], [(1, 1), (2, 2)]])

    def test_the_lines_stay_matched_but_their_pairs_change(self):
        before, after = best_matching(self.OWN, self.OTHER, 1), best_matching(self.OWN, self.OTHER, 2)
        self.assertFalse(set(before) & set(after))
        self.assertEqual({pair[0] for pair in before} - {pair[0] for pair in after}, set())
        gone, come = step_difference(self.OWN, self.OTHER, 2)
        self.assertTrue(is_move(before, after, gone, come))
        self.assertEqual(moves(before, after), ([[(1, 1), (2, 1), (2, 2)]], []))


class PromiseTest(unittest.TestCase):
    def check(self, own, other):
        days = [step[0] for step in steps(own, other)]
        self.assertEqual(days, sorted(days))
        own_prices, other_prices = line_prices(own, other)
        before = set()
        for price in trying.prices_around(days):
            pairs = matching_at(own, other, price)
            lines = {("own", pair[0]) for pair in pairs} | {("other", pair[1]) for pair in pairs}
            self.assertLessEqual(before, lines)
            before = lines
            known = {("own", row_id): told for row_id, told in own_prices.items()}
            known.update({("other", row_id): told for row_id, told in other_prices.items()})
            self.assertEqual(lines, {line for line, told in known.items() if told is not None and told <= price})
            self.check_certificates(own, other, price, pairs)

    def check_certificates(self, own, other, price, pairs):
        self.assertTrue(is_certificate(own, other, price, pairs, certificate(own, other, price)))
        total = 0
        for amount in sorted({line[2] for line in own + other}):
            levels = lowest_levels(own, other, amount, price)
            self.assertTrue(are_levels(own, other, amount, price, levels))
            total += levels_total(own, other, amount, price, levels)
        self.assertEqual(total, worth_of(own, other, pairs, price))

    def check_longer(self, draw, own, other, days):
        for is_own in (True, False):
            line = (10 ** 6, draw.randint(0, days), draw.choice([5, -5, 4]))
            self.assertTrue(do_interlace(*days_with(own, other, line, is_own=is_own)), (own, other, line, is_own))

    def test_edges(self):
        for own, other in trying.edge_books():
            self.check(own, other)

    def test_drawn_books(self):
        draw = random.Random(1)
        for own, other in trying.drawn_books(101, 100, most=10):
            self.check(own, other)
            self.check_longer(draw, own, other, 12)

    def test_larger_books(self):
        draw = random.Random(11)
        for days in (30, 10 ** 6):
            own, other = trying.full_book(draw, 15, days, [5, -5]), trying.full_book(draw, 13, days, [5, -5])
            self.check(own, other)
            self.check_longer(draw, own, other, days)


class ConventionsTest(unittest.TestCase):
    def test_arguments_stay_and_answers_are_new(self):
        for own, other in trying.drawn_books(2, 40, most=6):
            kept = copy.deepcopy((own, other))
            told = answers(own, other)
            again = copy.deepcopy(told)
            spoil(told)
            self.assertEqual((own, other), kept)
            self.assertEqual(answers(own, other), again)

    def test_books_that_are_changed_between_two_calls_are_answered_for_as_they_are(self):
        draw = random.Random(21)
        for own, other in trying.drawn_books(22, 40, most=6):
            for _ in range(4):
                book = draw.choice([own, other])
                if book and draw.random() < 0.5:
                    del book[draw.randrange(len(book))]
                else:
                    book.insert(draw.randint(0, len(book)), (max([line[0] for line in book], default=0) + 1, draw.randint(0, 9), 5))
                draw.shuffle(book)
                self.assertEqual(answers(own, other), answers(copy.deepcopy(own), copy.deepcopy(other)))

    def test_a_line_replaced_in_place(self):
        own, other = [(1, 0, 5)], [(1, 3, 5)]
        self.assertEqual([steps(own, other), marks(own, other)[0]], [[(3, 1, 1)], {1: (3, 3, 4)}])
        own[0] = (1, 1, 5)
        self.assertEqual([steps(own, other), marks(own, other)[0]], [[(2, 1, 1)], {1: (2, 2, 3)}])
        other[0] = (7, 1, 5)
        self.assertEqual([steps(own, other), marks(own, other)[1]], [[(0, 1, 7)], {7: (0, 0, 1)}])

    def test_the_sequence_of_books_means_nothing(self):
        draw = random.Random(23)
        for own, other in trying.drawn_books(24, 40, most=6):
            own_again, other_again = draw.sample(own, len(own)), draw.sample(other, len(other))
            self.assertEqual(answers(own_again, other_again), answers(own, other))

    def test_the_order_of_keys_means_nothing(self):
        own, other = trying.EXAMPLE_OWN, trying.EXAMPLE_OTHER
        own_numbers, other_numbers = certificate(own, other, 5)
        turned = dict(reversed(own_numbers.items())), dict(reversed(other_numbers.items()))
        self.assertTrue(is_certificate(own, other, 5, matching_at(own, other, 5), turned))
        levels = lowest_levels(own, other, 100, 5)
        turned = dict(reversed(levels.items()))
        self.assertTrue(are_levels(own, other, 100, 5, turned))
        self.assertEqual(levels_total(own, other, 100, 5, turned), levels_total(own, other, 100, 5, levels))

    def test_console_and_comparison_tell_the_same(self):
        for own, other in trying.drawn_books(25, 40, most=6):
            console = Console()
            for name, book in (("own", own), ("other", other)):
                for row_id, day, amount in book:
                    console.say(f"{name} {row_id} {day} {amount}")
            console.say("price 4")
            self.assertEqual(read_comparison(console.say("save")), Comparison.made(own, other, 4, []))


if __name__ == "__main__":
    unittest.main()

"""Reports for spans of days, left over lines, and the balance."""

import copy
import inspect
import itertools
import random
import unittest

import trying
from matchlines import reports as module
from matchlines.comparison import Comparison
from matchlines.errors import BadSpan
from matchlines.reports import balance, left_lines, report

PARAMETERS = {
    "report": ["comparison", "first", "last"],
    "left_lines": ["comparison", "first", "last"],
    "balance": ["comparison"],
}

ALL_DAYS = (0, 10 ** 6)


def parts(comparison):
    return [comparison.own, comparison.other, comparison.price, comparison.confirmed]


def small():
    """Two open lines that are matched, confirmed pairs of different amounts, and left over lines."""
    own = [(1, 2, 100), (2, 5, 30), (3, 5, -7), (4, 9, 1000)]
    other = [(1, 4, 100), (2, 8, 45), (3, 5, -7), (4, 7, 500), (5, 3, -2000)]
    return Comparison.made(own, other, 3, [(2, 2), (4, 5)])


def plain_report(comparison, first, last):
    sums = []
    for side, book in enumerate((comparison.own, comparison.other)):
        confirmed = [pair[side] for pair in comparison.confirmed]
        matched = [pair[side] for pair in comparison.pairs()]
        told = [0, 0, 0, 0]
        for row_id, day, amount in book:
            if first <= day <= last:
                told[0] += amount
                told[1 if row_id in confirmed else 2 if row_id in matched else 3] += amount
        sums.append(tuple(told))
    return tuple(sums)


def plain_left(comparison, first, last):
    rows = []
    for side, (book, ids) in enumerate(zip((comparison.own, comparison.other), comparison.left())):
        rows += [(line[1], side, line) for line in book if line[0] in ids and first <= line[1] <= last]
    return [(["own", "other"][side], line) for _, side, line in sorted(rows, key=lambda row: (row[0], row[1], row[2][0]))]


def wrong_spans():
    """Pairs of values that are no span."""
    found = [(5, 4), (1, 0), (10 ** 6, 0), (-1, 5), (5, -1), (-2, -1), (0, 10 ** 6 + 1), (10 ** 6 + 1, 10 ** 6 + 1)]
    for value in trying.any_values() + trying.wrong_integers() + [-1, 10 ** 6 + 1]:
        found += [(value, 5), (0, value), (value, value)]
    return found


class InterfaceTest(unittest.TestCase):
    def test_functions_are_defined_here_with_the_names_shown(self):
        trying.check_interface(self, module, PARAMETERS)

    def test_arguments_by_name(self):
        told = small()
        self.assertEqual(report(last=9, first=0, comparison=told), report(told, 0, 9))
        self.assertEqual(list(left_lines(last=9, first=0, comparison=told)), [("other", (4, 7, 500))])
        self.assertEqual(balance(comparison=told), 1123 + 1362)

    def test_left_lines_are_yielded(self):
        told = left_lines(small(), 0, 9)
        self.assertTrue(inspect.isgenerator(told))
        self.assertEqual([next(told), next(told, None)], [("other", (4, 7, 500)), None])


class ReportTest(unittest.TestCase):
    def test_all_days(self):
        expected = (1123, 1030, 93, 0), (-1362, -1955, 93, 500)
        for first, last in [(0, 9), ALL_DAYS, (2, 9), (0, 10)]:
            self.assertEqual(report(small(), first, last), expected)

    def test_before_and_behind_the_days_of_the_lines(self):
        nothing = (0, 0, 0, 0)
        for first, last in [(0, 0), (0, 1), (1, 1), (10, 10), (10, 10 ** 6), (10 ** 6, 10 ** 6)]:
            self.assertEqual(report(small(), first, last), (nothing, nothing))

    def test_one_day(self):
        self.assertEqual(report(small(), 5, 5), ((23, 30, -7, 0), (-7, 0, -7, 0)))
        self.assertEqual(report(small(), 2, 2), ((100, 0, 100, 0), (0, 0, 0, 0)))
        self.assertEqual(report(small(), 7, 7), ((0, 0, 0, 0), (500, 0, 0, 500)))
        self.assertEqual(report(small(), 3, 3), ((0, 0, 0, 0), (-2000, -2000, 0, 0)))

    def test_partner_outside_the_span(self):
        # The matched pair of the days 2 and 4, and the confirmed ones of 5 and 8, and of 9 and 3.
        self.assertEqual(report(small(), 0, 2), ((100, 0, 100, 0), (0, 0, 0, 0)))
        self.assertEqual(report(small(), 4, 4), ((0, 0, 0, 0), (100, 0, 100, 0)))
        self.assertEqual(report(small(), 8, 9), ((1000, 1000, 0, 0), (45, 45, 0, 0)))
        self.assertEqual(report(small(), 5, 6), ((23, 30, -7, 0), (-7, 0, -7, 0)))

    def test_the_price_counts(self):
        told = small()
        told.set_price(1)
        self.assertEqual(report(told, 0, 9), ((1123, 1030, -7, 100), (-1362, -1955, -7, 600)))
        self.assertEqual(report(told, 0, 4), ((100, 0, 0, 100), (-1900, -2000, 0, 100)))

    def test_empty(self):
        self.assertEqual(report(Comparison(), *ALL_DAYS), ((0, 0, 0, 0), (0, 0, 0, 0)))

    def test_all_spans(self):
        told = small()
        for first, last in itertools.combinations_with_replacement(range(11), 2):
            self.assertEqual(report(told, first, last), plain_report(told, first, last))
            self.assertEqual(list(left_lines(told, first, last)), plain_left(told, first, last))

    def test_drawn_books(self):
        draw = random.Random(14)
        for own, other in trying.drawn_books(141, 150, most=12):
            number = draw.randint(0, min(len(own), len(other), 3))
            ids = [draw.sample([line[0] for line in book], number) for book in (own, other)]
            told = Comparison.made(own, other, draw.choice([0, 1, 5, 40]), list(zip(*ids)))
            for first, last in [ALL_DAYS, (0, 3), (1, 1), (2, 9), (4, 30)]:
                sums = report(told, first, last)
                self.assertEqual(sums, plain_report(told, first, last))
                for total, *rest in sums:
                    self.assertEqual(total, sum(rest))
                self.assertEqual(list(left_lines(told, first, last)), plain_left(told, first, last))
            self.assertEqual(balance(told), sum(line[2] for line in own) - sum(line[2] for line in other))

    def test_great_amounts(self):
        own = [(row_id, 10 ** 6, 10 ** 12) for row_id in range(1, 61)]
        told = Comparison.made(own, [(row_id, day, -amount) for row_id, day, amount in own], 0, [(1, 1)])
        sums = 60 * 10 ** 12, 10 ** 12, 0, 59 * 10 ** 12
        self.assertEqual(report(told, 10 ** 6, 10 ** 6), (sums, tuple(-number for number in sums)))
        self.assertEqual(balance(told), 120 * 10 ** 12)

    def test_kinds(self):
        told = report(small(), 0, 9)
        self.assertEqual([type(told), type(told[0]), type(told[1])], [tuple] * 3)
        self.assertEqual({type(number) for number in told[0] + told[1]}, {int})


class LeftLinesTest(unittest.TestCase):
    def test_in_their_sequence(self):
        own = [(10, 5, 1), (9, 5, 1), (2, 7, 1), (1, 8, 1)]
        other = [(10, 5, 2), (9, 5, 2), (2, 6, 2), (1, 7, 2)]
        told = Comparison.made(own, other, 3, [])
        rows = [("own", own[1]), ("own", own[0]), ("other", other[1]), ("other", other[0]), ("other", other[2])]
        rows += [("own", own[2]), ("other", other[3]), ("own", own[3])]
        self.assertEqual(list(left_lines(told, 0, 100)), rows)
        self.assertEqual(list(left_lines(told, 6, 7)), rows[4:7])
        self.assertEqual(list(left_lines(told, 6, 6)), rows[4:5])
        self.assertEqual(list(left_lines(told, 9, 10)), [])
        self.assertEqual({type(row) for row in left_lines(told, 0, 100)}, {tuple})

    def test_same_id_in_both_books(self):
        told = Comparison.made([(1, 5, 1), (2, 5, 2)], [(1, 5, 2), (2, 5, 3)], 3, [])
        self.assertEqual(list(left_lines(told, 0, 9)), [("own", (1, 5, 1)), ("other", (2, 5, 3))])

    def test_as_they_are_when_the_first_one_is_asked_for(self):
        told = Comparison.made([(1, 5, 1), (2, 6, 2)], [(1, 7, 3)], 3, [])
        rows = left_lines(told, 0, 9)
        told.drop_own(1)
        told.add_own(7, 4, 9)
        self.assertEqual(next(rows), ("own", (7, 4, 9)))
        told.drop_own(2)
        told.confirm(7, 1)
        told.add_own(8, 8, 8)
        self.assertEqual(list(rows), [("own", (2, 6, 2)), ("other", (1, 7, 3))])
        self.assertEqual(list(left_lines(told, 0, 9)), [("own", (8, 8, 8))])


class BalanceTest(unittest.TestCase):
    def test_known(self):
        self.assertEqual(balance(Comparison()), 0)
        self.assertEqual(balance(Comparison.made([(1, 0, 5)], [], 0, [])), 5)
        self.assertEqual(balance(Comparison.made([], [(1, 0, 5)], 0, [])), -5)
        self.assertEqual(balance(Comparison.made([(1, 0, 5), (2, 9, -8)], [(1, 0, 5), (2, 7, -1)], 9, [(1, 1)])), -7)


class BadSpanTest(unittest.TestCase):
    def test_report(self):
        for first, last in wrong_spans():
            trying.check_raises(self, BadSpan, (first, last), report, small(), first, last)

    def test_left_lines_raise_it_when_the_first_one_is_asked_for(self):
        for first, last in wrong_spans():
            rows = left_lines(small(), first, last)
            trying.check_raises(self, BadSpan, (first, last), next, rows)
            with self.assertRaises(BadSpan):
                list(left_lines(small(), first, last))

    def test_the_values_themselves_are_kept(self):
        first, last = [1], {"a": 2}
        with self.assertRaises(BadSpan) as caught:
            next(left_lines(small(), first, last))
        self.assertTrue(caught.exception.value[0] is first and caught.exception.value[1] is last)

    def test_bounds(self):
        for first, last in [(0, 0), (0, 10 ** 6), (10 ** 6, 10 ** 6), (5, 5)]:
            report(small(), first, last), list(left_lines(small(), first, last))


class UnchangedTest(unittest.TestCase):
    def test_reports_change_nothing(self):
        told = small()
        told.set_price(7)
        told.undo()
        kept = copy.deepcopy(parts(told))
        report(told, 0, 9), list(left_lines(told, 0, 9)), balance(told)
        with self.assertRaises(BadSpan):
            report(told, 9, 0)
        self.assertEqual(parts(told), kept)
        told.redo()
        self.assertEqual(told.price, 7)


if __name__ == "__main__":
    unittest.main()

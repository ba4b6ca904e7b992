"""The examples of the document, as they stand there, and those of README.md."""

import ast
import doctest
import pathlib
import unittest

BOOKS = r"""
    >>> from matchlines.books import amounts_of, is_line, lines_of, sequence
    >>> own, other = [(1, 4, 100), (2, 0, 100), (3, 2, -5)], [(1, 3, 100), (2, 4, 100), (9, 1, 7)]
    >>> [is_line((1, 4, 100)), is_line((1, 4, 0)), is_line((1, -4, 100))]
    [True, False, False]
    >>> [(side, line[0]) for side, line in sequence(own, other)]
    [('own', 2), ('other', 9), ('own', 3), ('other', 1), ('own', 1), ('other', 2)]
    >>> [lines_of(own, 100), amounts_of(own, other)]
    [[(2, 0, 100), (1, 4, 100)], [100]]
"""

MATCHINGS = r"""
    >>> from matchlines.matchings import can_be_paired, cost_of, in_sequence, is_matching, worth_of
    >>> own, other = [(1, 0, 100), (2, 4, 100)], [(1, 3, 100), (2, 5, 100)]
    >>> [in_sequence(own, other, [2, 1], [1, 2]), cost_of(own, other, [(1, 1), (2, 2)])]
    [[(1, 1), (2, 2)], 4]
    >>> [is_matching(own, other, [(1, 2)]), is_matching(own, other, [(1, 2), (2, 2)]), worth_of(own, other, [(2, 1)], 3)]
    [True, False, 2]
    >>> in_sequence(own, other, [1], [1, 2])
    raises Unpaired(amount=100)
"""

STEPS = r"""
    >>> from matchlines.steps import best_matching, costs, least_cost, steps
    >>> own, other = [(1, 0, 100), (2, 4, 100)], [(1, 3, 100), (2, 5, 100)]
    >>> steps(own, other)
    [(1, 2, 1), (3, 1, 2)]
    >>> [best_matching(own, other, 1), best_matching(own, other, 2), list(costs(own, other))]
    [[(2, 1)], [(1, 1), (2, 2)], [0, 1, 4]]
    >>> best_matching(own, other, 3)
    raises BadNumber(value=3)
"""

PRICES = r"""
    >>> from matchlines.prices import break_prices, line_prices, matching_at, worth_at
    >>> own, other = [(1, 0, 100), (2, 4, 100)], [(1, 3, 100), (2, 5, 100)]
    >>> [matching_at(own, other, 2), matching_at(own, other, 3), worth_at(own, other, 3)]
    [[(2, 1)], [(1, 1), (2, 2)], 2]
    >>> [line_prices(own, other), break_prices(own, other)]
    [({1: 3, 2: 1}, {1: 1, 2: 3}), [1, 3]]
"""

CERTIFICATES = r"""
    >>> from matchlines.certificates import certificate, gains, is_certificate
    >>> own, other = [(1, 0, 100), (2, 4, 100)], [(1, 3, 100), (2, 5, 100)]
    >>> [gains(own, other, 5), certificate(own, other, 5)]
    [({1: 2, 2: 4}, {1: 2, 2: 2}), ({1: 2, 2: 4}, {1: 0, 2: 0})]
    >>> is_certificate(own, other, 5, [(1, 1), (2, 2)], ({1: 2, 2: 4}, {1: 0, 2: 0}))
    True
"""

SURE = r"""
    >>> from matchlines.sure import line_states, pair_states, sure_pairs
    >>> own, other = [(1, 0, 100), (2, 4, 100)], [(1, 3, 100), (2, 5, 100)]
    >>> line_states(own, other, 2)
    ({1: 'never', 2: 'always'}, {1: 'sometimes', 2: 'sometimes'})
    >>> [sorted(pair_states(own, other, 5).items())[:2], list(sure_pairs(own, other, 5))]
    [[((1, 1), 'always'), ((1, 2), 'never')], [(1, 1), (2, 2)]]
"""

CHANGES = r"""
    >>> from matchlines.changes import days_with, do_interlace, step_difference
    >>> own, other = [(1, 0, 100), (2, 4, 100)], [(1, 3, 100), (2, 5, 100)]
    >>> days_with(own, other, (3, 3, 100), is_own=True)
    ([1, 3], [0, 1])
    >>> [do_interlace([1, 3], [0, 1]), do_interlace([1, 3], [2, 2]), step_difference(own, other, 2)]
    [True, False, ([(2, 1)], [(1, 1), (2, 2)])]
"""

MOVES = r"""
    >>> from matchlines.moves import is_move, moves
    >>> moves([(2, 1)], [(1, 1), (2, 2)])
    ([[(1, 1), (2, 1), (2, 2)]], [])
    >>> moves([(1, 1), (2, 2)], [(1, 2), (2, 1)])
    ([], [[(1, 1), (1, 2), (2, 1), (2, 2)]])
    >>> is_move([(2, 1)], [(1, 1), (2, 2)], [(2, 1)], [(1, 1), (2, 2)])
    True
"""

COMPARISON = r"""
    >>> from matchlines.comparison import Comparison
    >>> book = Comparison()
    >>> book.add_own(1, 0, 100)
    >>> book.add_own(2, 4, 100)
    >>> book.add_other(1, 3, 100)
    >>> book.set_price(2)
    >>> [book.pairs(), book.left(), book.open_steps()]
    [[(2, 1)], ([1], []), [(1, 2, 1)]]
    >>> book.confirm(1, 1)
    >>> [book.pairs(), book.confirmed, book.left()]
    [[], [(1, 1)], ([2], [])]
    >>> book.confirm(2, 1)
    raises TakenLine(row_id=1)
"""

REPORTS = r"""
    >>> from matchlines.comparison import Comparison
    >>> from matchlines.reports import balance, left_lines, report
    >>> book = Comparison.made([(1, 0, 100), (2, 4, 100)], [(1, 3, 100), (2, 9, -30)], 2, [])
    >>> [report(book, 0, 5), balance(book)]
    [((200, 0, 100, 100), (100, 0, 100, 0)), 130]
    >>> list(left_lines(book, 0, 9))
    [('own', (1, 0, 100)), ('other', (2, 9, -30))]
"""

TEXTS = r"""
    >>> from matchlines.comparison import Comparison
    >>> from matchlines.texts import book_text, comparison_text, read_book
    >>> book_text([(2, 4, -100), (1, 0, 100)])
    '1 0 100\n2 4 -100'
    >>> read_book("1 0 100\n1 4 100")
    raises BadText(value='1 0 100\n1 4 100')
    >>> comparison_text(Comparison.made([(1, 0, 100)], [(7, 3, 90)], 2, [(1, 7)]))
    'price 2\nown 1 0 100\nother 7 3 90\npair 1 7'
"""

CONSOLE = r"""
    >>> from matchlines.console import Console
    >>> console = Console()
    >>> [console.say("own 1 0 100"), console.say("own 2 4 100"), console.say("other 1 3 100"), console.say("price 2")]
    ['ok', 'ok', 'ok', 'ok']
    >>> [console.say("pairs"), console.say("left"), console.say("steps"), console.say("report 0 9")]
    ['2-1', 'own 1 other -', '1:2+1', 'own 200 0 100 100 other 100 0 100 0']
    >>> console.say("shout")
    raises BadCommand(command='shout')
"""

LEVELS = r"""
    >>> from matchlines.levels import are_levels, highest_levels, levels_total, lowest_levels, marks
    >>> own, other = [(1, 0, 100), (2, 4, 100)], [(1, 3, 100), (2, 5, 100)]
    >>> sorted(lowest_levels(own, other, 100, 5).items())
    [(0, 0), (3, 3), (4, 2), (5, 3)]
    >>> [levels_total(own, other, 100, 5, lowest_levels(own, other, 100, 5)), are_levels(own, other, 100, 5, {0: 0, 3: 4, 4: 2, 5: 3})]
    [6, False]
    >>> marks(own, other)
    ({1: (3, 3, 4), 2: (1, 1, 2)}, {1: (1, 1, 4), 2: (1, 3, 4)})
"""


def examples_in(text):
    """Pairs of a command and of what the document shows below it, which may be nothing."""
    found = []
    for row in text.strip().split("\n"):
        row = row.strip()
        if row.startswith(">>> "):
            found.append([row[4:], ""])
        else:
            found[-1][1] = row
    return found


def shown(command, names):
    """What the document would show below a command."""
    if not isinstance(ast.parse(command).body[0], ast.Expr):
        exec(command, names)
        return ""
    try:
        value = eval(command, names)
    except ValueError as error:
        kept = ", ".join(f"{name}={value!r}" for name, value in vars(error).items())
        return f"raises {type(error).__name__}({kept})"
    return "" if value is None else repr(value)


class ExamplesTest(unittest.TestCase):
    def check(self, text):
        names = {}
        for command, expected in examples_in(text):
            with self.subTest(command):
                self.assertEqual(shown(command, names), expected)

    def test_books(self):
        self.check(BOOKS)

    def test_matchings(self):
        self.check(MATCHINGS)

    def test_steps(self):
        self.check(STEPS)

    def test_prices(self):
        self.check(PRICES)

    def test_certificates(self):
        self.check(CERTIFICATES)

    def test_sure(self):
        self.check(SURE)

    def test_changes(self):
        self.check(CHANGES)

    def test_moves(self):
        self.check(MOVES)

    def test_comparison(self):
        self.check(COMPARISON)

    def test_reports(self):
        self.check(REPORTS)

    def test_texts(self):
        self.check(TEXTS)

    def test_console(self):
        self.check(CONSOLE)

    def test_levels(self):
        self.check(LEVELS)

    def test_readme(self):
        readme = pathlib.Path(__file__).resolve().parent.parent / "README.md"
        failed, tried = doctest.testfile(str(readme), module_relative=False, encoding="utf-8")
        self.assertEqual(failed, 0)
        self.assertGreater(tried, 0)


if __name__ == "__main__":
    unittest.main()

"""Books and comparisons as texts, and back; values that are no such text."""

import copy
import itertools
import random
import re
import unittest

import trying
from matchlines import texts as module
from matchlines.comparison import Comparison
from matchlines.errors import BadText, NothingToDo
from matchlines.texts import book_text, comparison_text, read_book, read_comparison

PARAMETERS = {
    "book_text": ["book"],
    "read_book": ["text"],
    "comparison_text": ["comparison"],
    "read_comparison": ["text"],
}

BOUNDS = [(1, 0, -10 ** 12), (2, 10 ** 6, 10 ** 12), (9, 5, -1), (10, 5, 1), (10 ** 6, 10 ** 6, 7)]

SMALL_BOOK = "1 0 100\n2 40 -5\n10 7 33"
SMALL = "price 12\nown 1 0 100\nown 3 5 -70\nother 2 3 90\nother 10 14 8\npair 1 10\npair 3 2"

# Signs of texts, and some that no text has.
SIGNS = "019- \nabopxN+_.,\t"


def parts(comparison):
    return [comparison.own, comparison.other, comparison.price, comparison.confirmed]


def plain_numbers(text, many):
    """So many integers in a row, or None; by a pattern, apart from the program."""
    words = text.split(" ")
    if len(words) != many or not all(re.fullmatch("0|-?[1-9][0-9]{0,18}", word) for word in words):
        return None
    return tuple(int(word) for word in words)


def plain_lines(rows):
    """The lines that these rows write, or None."""
    book = [plain_numbers(row, 3) for row in rows]
    if None in book or any(line[0] >= after[0] for line, after in zip(book, book[1:])):
        return None
    for row_id, day, amount in book:
        if not 1 <= row_id <= 10 ** 6 or not 0 <= day <= 10 ** 6 or not 1 <= abs(amount) <= 10 ** 12:
            return None
    return book


def plain_book(text):
    """The book with this text, or None."""
    return [] if text == "nothing" else plain_lines(text.split("\n"))


def plain_comparison(text):
    """The parts of the comparison with this text, or None."""
    rows = [row.split(" ", 1) for row in text.split("\n")]
    names = ["price", "own", "other", "pair"]
    if any(len(row) != 2 or row[0] not in names for row in rows):
        return None
    if [row[0] for row in rows] != sorted([row[0] for row in rows], key=names.index):
        return None
    prices, own, other, pairs = [[row[1] for row in rows if row[0] == name] for name in names]
    prices, pairs = [plain_numbers(row, 1) for row in prices], [plain_numbers(row, 2) for row in pairs]
    books = [plain_lines(own), plain_lines(other)]
    if len(prices) != 1 or None in prices or None in books or None in pairs or max(map(len, books)) > 60:
        return None
    known = [[line[0] for line in book] for book in books]
    if any(pair[side] not in known[side] for pair in pairs for side in (0, 1)):
        return None
    if len({pair[1] for pair in pairs}) < len(pairs) or any(pair[0] >= after[0] for pair, after in zip(pairs, pairs[1:])):
        return None
    return [*books, prices[0][0], pairs] if 0 <= prices[0][0] <= 10 ** 12 else None


def changed_texts(text):
    """Texts with one sign put in, taken out or replaced, at each place."""
    for place in range(len(text) + 1):
        for sign in SIGNS:
            yield text[:place] + sign + text[place:]
            if place < len(text):
                yield text[:place] + sign + text[place + 1:]
        yield text[:place] + text[place + 1:]


class InterfaceTest(unittest.TestCase):
    def test_functions_are_defined_here_with_the_names_shown(self):
        trying.check_interface(self, module, PARAMETERS)

    def test_arguments_by_name(self):
        self.assertEqual(book_text(book=[(1, 0, 5)]), "1 0 5")
        self.assertEqual(read_book(text="1 0 5"), [(1, 0, 5)])
        self.assertEqual(comparison_text(comparison=Comparison()), "price 0")
        self.assertEqual(read_comparison(text="price 0"), Comparison())


class BookTest(unittest.TestCase):
    def test_known(self):
        self.assertEqual(book_text([(2, 4, -100), (1, 0, 100)]), "1 0 100\n2 4 -100")
        self.assertEqual(book_text([]), "nothing")
        self.assertEqual(read_book("nothing"), [])
        self.assertEqual(read_book(SMALL_BOOK), [(1, 0, 100), (2, 40, -5), (10, 7, 33)])

    def test_in_any_sequence(self):
        for rows in itertools.permutations([(9, 5, -7), (10, 0, 8), (100, 3, 1), (2, 1, 1)]):
            book = list(rows)
            self.assertEqual(book_text(book), "2 1 1\n9 5 -7\n10 0 8\n100 3 1")
            self.assertEqual(book, list(rows))

    def test_bounds(self):
        text = book_text(BOUNDS)
        self.assertEqual(text.split("\n")[0], "1 0 -1000000000000")
        self.assertEqual(text.split("\n")[-1], "1000000 1000000 7")
        self.assertEqual(read_book(text), BOUNDS)

    def test_there_and_back(self):
        draw = random.Random(15)
        for own, other in trying.drawn_books(151, 100, most=9):
            for book in (own, other):
                told = read_book(book_text(book))
                self.assertEqual(told, sorted(book))
                self.assertEqual({type(line) for line in told} - {tuple}, set())
        book = trying.full_book(draw, 300, 10 ** 6, [10 ** 12, -1])
        self.assertEqual(read_book(book_text(book)), sorted(book))

    def test_more_than_sixty_lines(self):
        book = [(row_id, 0, 5) for row_id in range(1, 200)]
        self.assertEqual(read_book(book_text(book)), book)

    def test_read_books_are_new(self):
        read_book("nothing").append(1)
        self.assertEqual(read_book("nothing"), [])


class ComparisonTest(unittest.TestCase):
    def test_known(self):
        self.assertEqual(comparison_text(Comparison()), "price 0")
        told = Comparison.made([(3, 5, -70), (1, 0, 100)], [(10, 14, 8), (2, 3, 90)], 12, [(3, 2), (1, 10)])
        self.assertEqual(comparison_text(told), SMALL)
        self.assertEqual(parts(read_comparison(SMALL)), parts(told))
        self.assertEqual(read_comparison(SMALL), told)
        self.assertIs(type(read_comparison(SMALL)), Comparison)

    def test_single_parts(self):
        for told in [Comparison.made([(1, 0, 5)], [], 0, []), Comparison.made([], [(1, 0, 5)], 1, [])]:
            self.assertEqual(read_comparison(comparison_text(told)), told)
        self.assertEqual(comparison_text(Comparison.made([], [(1, 0, 5)], 1, [])), "price 1\nother 1 0 5")

    def test_bounds(self):
        for price in (0, 1, 10 ** 12):
            told = Comparison.made(BOUNDS, BOUNDS[::-1], price, [(10 ** 6, 1), (1, 10 ** 6)])
            self.assertEqual(read_comparison(comparison_text(told)), told)

    def test_there_and_back(self):
        draw = random.Random(152)
        for own, other in trying.drawn_books(153, 100, most=9):
            number = draw.randint(0, min(len(own), len(other)))
            ids = [draw.sample([line[0] for line in book], number) for book in (own, other)]
            told = Comparison.made(own, other, draw.randint(0, 10 ** 12), list(zip(*ids)))
            again = read_comparison(comparison_text(told))
            self.assertEqual(parts(again), parts(told))
            self.assertEqual(again.pairs(), told.pairs())

    def test_sixty_lines(self):
        book = [(row_id, 0, 5) for row_id in range(1, 61)]
        for told in [Comparison.made(book, [], 1, []), Comparison.made([], book, 1, []), Comparison.made(book, book, 1, [])]:
            self.assertEqual(read_comparison(comparison_text(told)), told)

    def test_nothing_to_undo_or_redo(self):
        for text in (SMALL, "price 0"):
            told = read_comparison(text)
            trying.check_raises(self, NothingToDo, "undo", told.undo)
            trying.check_raises(self, NothingToDo, "redo", told.redo)
            told.set_price(5)
            told.undo()
            self.assertEqual(comparison_text(told), text)

    def test_writing_is_no_change(self):
        told = read_comparison(SMALL)
        told.set_price(1)
        told.undo()
        kept = copy.deepcopy(parts(told))
        comparison_text(told)
        self.assertEqual(parts(told), kept)
        told.redo()
        self.assertEqual(told.price, 1)


class BadTextTest(unittest.TestCase):
    def check(self, value):
        trying.check_raises(self, BadText, value, read_book, value)
        trying.check_raises(self, BadText, value, read_comparison, value)

    def check_book(self, text):
        self.assertIsNone(plain_book(text), text)
        trying.check_raises(self, BadText, text, read_book, text)

    def check_comparison(self, text):
        self.assertIsNone(plain_comparison(text), text)
        trying.check_raises(self, BadText, text, read_comparison, text)

    def test_no_strings(self):
        for value in [value for value in trying.any_values() + trying.no_numbers() if not isinstance(value, str)]:
            self.check(value)
        for value in ([SMALL_BOOK], (SMALL,), {SMALL: SMALL}, [(1, 0, 100)], b"nothing", b"price 0", 0, 1):
            self.check(value)

    def test_empty_and_blank_texts(self):
        for value in ["", " ", "\n", "\n\n", "-", "0", "a", "Nothing", "NOTHING", "none", "price", "price ", "own", "pair"]:
            self.check(value)

    def test_each_is_no_text_of_the_other_kind(self):
        for text in (SMALL_BOOK, "nothing"):
            trying.check_raises(self, BadText, text, read_comparison, text)
        for text in (SMALL, "price 0"):
            trying.check_raises(self, BadText, text, read_book, text)

    def test_nothing_with_more(self):
        for text in ["nothing\n", "nothing ", " nothing", "nothing\n1 0 5", "1 0 5\nnothing", "nothing\nnothing", "nothing 1"]:
            self.check_book(text)
        for text in ["price 0\nnothing", "nothing\nprice 0", "price 0\nown nothing", "price nothing"]:
            self.check_comparison(text)

    def test_numbers_of_books(self):
        for row_id in ("01", "+1", "-0", "0", "-1", "1.0", "1e2", "one", "", "1_0", "1000001", "0x1", "--1", "1-", "True"):
            self.check_book(f"{row_id} 0 100")
            self.check_book(f"{row_id} 0 100\n2 0 5")
        for day in ("00", "01", "+1", "-0", "-1", "1000001", "", "x", "1.5"):
            self.check_book(f"1 {day} 100")
        for amount in ("0", "-0", "00", "+5", "05", "-05", "--5", "- 5", "-", "1000000000001", "-1000000000001", "5-", "x", ""):
            self.check_book(f"1 0 {amount}")

    def test_numbers_of_very_many_digits(self):
        for digits in ("9" * 31, "9" * 5000, "-" + "9" * 5000, "1" + "0" * 100000, "0" * 10000 + "1", "9" * 30, "-" + "9" * 30):
            for text in (f"{digits} 0 5", f"1 {digits} 5", f"1 0 {digits}", f"1 0 5\n{digits} 0 5"):
                trying.check_raises(self, BadText, text, read_book, text)
            for text in (f"price {digits}", f"price 0\nown {digits} 0 5", f"price 0\nother 1 {digits} 5"):
                trying.check_raises(self, BadText, text, read_comparison, text)
            text = f"price 0\nown 1 0 5\nother 1 0 5\npair 1 {digits}"
            trying.check_raises(self, BadText, text, read_comparison, text)

    def test_digits_of_other_alphabets(self):
        for sign in ("\u0661", "\u00b2", "\uff11"):
            trying.check_raises(self, BadText, f"{sign} 0 5", read_book, f"{sign} 0 5")
            trying.check_raises(self, BadText, f"price {sign}", read_comparison, f"price {sign}")

    def test_blanks_and_newlines(self):
        for text in ["1 0 5 ", " 1 0 5", "1  0 5", "1 0  5", "1 0 5\n", "\n1 0 5", "1 0 5\n\n2 0 5", "1 0 5 \n2 0 5", "1\n0\n5"]:
            self.check_book(text)
        for text in ["1\t0 5", "1 0 5\r\n2 0 5", "1,0,5", "1 0", "1 0 5 6", "1 0 5 2 0 5", "1 0 5;2 0 5"]:
            self.check_book(text)
        for text in ["price 0 ", " price 0", "price  0", "price 0\n", "\nprice 0", "price 0\n\nown 1 0 5", "price\n0", "price0"]:
            self.check_comparison(text)
        for text in ["price 0\nown 1 0 5 ", "price 0\n own 1 0 5", "price 0\nown  1 0 5", "price 0\nown 1 0 5\n"]:
            self.check_comparison(text)

    def test_not_sorted_and_ids_twice(self):
        for text in ["2 0 5\n1 0 5", "10 0 5\n9 0 5", "1 0 5\n10 0 5\n2 0 5", "1 0 5\n1 0 5", "1 0 5\n1 4 7", "2 0 5\n3 0 5\n2 0 5"]:
            self.check_book(text)
            rows = text.split("\n")
            self.check_comparison("\n".join(["price 0"] + ["own " + row for row in rows]))
            self.check_comparison("\n".join(["price 0"] + ["other " + row for row in rows]))

    def test_prices(self):
        for price in ("-1", "1000000000001", "01", "+1", "-0", "", "x", "1 2", "1.0", "nothing"):
            self.check_comparison(f"price {price}")
            self.check_comparison(f"price {price}\nown 1 0 5")
        self.check_comparison("own 1 0 5")
        self.check_comparison("price 1\nprice 1")
        self.check_comparison("price 1\nprice 2\nown 1 0 5")
        self.check_comparison("price 1\nown 1 0 5\nprice 1")

    def test_lines_in_another_sequence(self):
        rows = SMALL.split("\n")
        for first, second in itertools.combinations(range(len(rows)), 2):
            told = list(rows)
            told[first], told[second] = told[second], told[first]
            self.check_comparison("\n".join(told))
        for place in range(len(rows)):
            self.check_comparison("\n".join(rows[:place + 1] + rows[place:]))

    def test_words(self):
        for word in ("Own", "OTHER", "owns", "pairs", "line", "", "1", "price", "nothing"):
            for row in ("1 0 5", "1 1", "7", ""):
                self.check_comparison(f"price 0\nown 1 0 5\nother 1 0 5\n{word} {row}")
                self.check_comparison(f"{word} {row}\nprice 0")

    def test_pairs(self):
        books = "price 0\nown 1 0 5\nown 2 0 5\nother 3 0 5\nother 4 0 5"
        for pair in ("1", "1 3 5", "", "1 x", "01 3", "1 +3", "3 1", "1 1", "4 3", "5 3", "1 5", "0 3", "-1 3", "1-3", "1 3 "):
            self.check_comparison(f"{books}\npair {pair}")
        for first, second in [("1 3", "1 3"), ("1 3", "1 4"), ("1 3", "2 3"), ("2 4", "1 3"), ("2 3", "1 3")]:
            self.check_comparison(f"{books}\npair {first}\npair {second}")
        self.check_comparison("price 0\npair 1 1")
        self.assertEqual(read_comparison(f"{books}\npair 1 4\npair 2 3").confirmed, [(1, 4), (2, 3)])

    def test_sixty_one_lines(self):
        for name in ("own", "other"):
            rows = [f"{name} {row_id} 0 5" for row_id in range(1, 62)]
            read_comparison("\n".join(["price 0"] + rows[:60]))
            self.check_comparison("\n".join(["price 0"] + rows))

    def test_one_sign_put_in_taken_out_or_replaced_in_a_book(self):
        for text in (SMALL_BOOK, "1 0 5", "nothing", book_text(BOUNDS)):
            for other in changed_texts(text):
                if plain_book(other) is None:
                    trying.check_raises(self, BadText, other, read_book, other)
                else:
                    self.assertEqual(read_book(other), plain_book(other))

    def test_one_sign_put_in_taken_out_or_replaced_in_a_comparison(self):
        for text in (SMALL, "price 0", "price 1000000000000\nother 9 0 -5"):
            for other in changed_texts(text):
                if plain_comparison(other) is None:
                    trying.check_raises(self, BadText, other, read_comparison, other)
                else:
                    self.assertEqual(parts(read_comparison(other)), plain_comparison(other))


if __name__ == "__main__":
    unittest.main()

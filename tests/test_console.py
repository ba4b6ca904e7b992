"""The console: every command and its answer, errors, and values that are no command."""

import inspect
import random
import unittest

import trying
from matchlines import console as module
from matchlines.comparison import Comparison
from matchlines.console import Console
from matchlines.errors import (
    BadCommand, BadLine, BadNumber, BadPrice, BadSpan, MatchError, NothingToDo, TakenId, TakenLine, UnknownLine)
from matchlines.reports import report
from matchlines.texts import comparison_text, read_comparison

START = ["own 1 0 100", "own 2 4 100", "other 1 3 100", "price 2"]

# A right command of each kind, for the console of `filled`; none of them is refused there.
RIGHT = [
    "own 9 8 -7", "other 9 8 -7", "drop own 2", "drop other 1", "price 3", "confirm 1 1", "open 3", "undo", "redo",
    "pairs", "left", "steps", "report 0 9", "save", "clear",
]


def spoken(commands):
    """A console that has executed these commands."""
    told = Console()
    for command in commands:
        told.say(command)
    return told


def filled():
    """A console with open lines, a confirmed pair, something to undo and something to redo."""
    more = ["own 3 9 7", "other 3 2 -7", "confirm 3 3", "own 50 50 50", "undo"]
    return spoken(START + more)


def state(console):
    """All that a console has: its text now, and as far as undo and redo go. It is left as it was."""
    now, back, on = console.say("save"), [], []
    for action, rows in (("undo", back), ("redo", on)):
        while True:
            try:
                console.say(action)
            except NothingToDo:
                break
            rows.append(console.say("save"))
    for _ in range(len(on) - len(back)):
        console.say("undo")
    assert console.say("save") == now
    return back, on


class InterfaceTest(unittest.TestCase):
    def test_class_is_defined_here_with_the_names_shown(self):
        self.assertEqual(Console.__module__, module.__name__)
        self.assertEqual(list(inspect.signature(Console).parameters), [])
        self.assertIn("say", vars(Console))
        self.assertEqual(list(inspect.signature(Console.say).parameters), ["self", "command"])

    def test_arguments_by_name(self):
        self.assertEqual(Console().say(command="save"), "price 0")


class AnswersTest(unittest.TestCase):
    def check(self, console, rows):
        for command, answer in rows:
            self.assertEqual(console.say(command), answer, command)

    def test_new_console(self):
        rows = [("pairs", "none"), ("left", "own - other -"), ("steps", "none"), ("save", "price 0")]
        self.check(Console(), rows + [("report 0 1000000", "own 0 0 0 0 other 0 0 0 0"), ("clear", "ok"), ("save", "price 0")])

    def test_every_change(self):
        rows = [
            ("own 1 0 100", "price 0\nown 1 0 100"),
            ("other 7 3 90", "price 0\nown 1 0 100\nother 7 3 90"),
            ("price 12", "price 12\nown 1 0 100\nother 7 3 90"),
            ("confirm 1 7", "price 12\nown 1 0 100\nother 7 3 90\npair 1 7"),
            ("open 1", "price 12\nown 1 0 100\nother 7 3 90"),
            ("undo", "price 12\nown 1 0 100\nother 7 3 90\npair 1 7"),
            ("redo", "price 12\nown 1 0 100\nother 7 3 90"),
            ("drop own 1", "price 12\nother 7 3 90"),
            ("own 7 2 -5", "price 12\nown 7 2 -5\nother 7 3 90"),
            ("drop other 7", "price 12\nown 7 2 -5"),
            ("clear", "price 0"),
        ]
        console = Console()
        for command, text in rows:
            self.assertEqual(console.say(command), "ok", command)
            self.assertEqual(console.say("save"), text, command)

    def test_pairs(self):
        console = spoken(["own 10 0 5", "own 9 10 5", "own 1 90 5", "other 4 1 5", "other 3 11 5"])
        self.check(console, [("pairs", "none"), ("price 1", "ok"), ("pairs", "9-3 10-4"), ("price 500", "ok")])
        self.check(console, [("pairs", "9-3 10-4"), ("other 12 95 5", "ok"), ("pairs", "1-12 9-3 10-4")])
        self.check(console, [("confirm 10 3", "ok"), ("pairs", "1-12 9-4"), ("drop own 1", "ok"), ("pairs", "9-4")])

    def test_left(self):
        console = spoken(["own 3 0 5", "own 7 0 6", "own 10 0 7", "other 2 0 8"])
        self.check(console, [("left", "own 3 7 10 other 2"), ("other 1 0 5", "ok"), ("left", "own 7 10 other 2")])
        self.check(console, [("confirm 10 2", "ok"), ("left", "own 7 other -"), ("drop own 7", "ok"), ("left", "own - other -")])
        self.check(console, [("drop own 10", "ok"), ("left", "own - other 2"), ("other 11 0 9", "ok"), ("left", "own - other 2 11")])

    def test_steps(self):
        console = spoken(START)
        self.check(console, [("steps", "1:2+1"), ("other 2 5 100", "ok"), ("steps", "1:2+1 3:1+2"), ("price 0", "ok")])
        self.check(console, [("steps", "1:2+1 3:1+2"), ("confirm 1 1", "ok"), ("steps", "1:2+2"), ("confirm 2 2", "ok")])
        self.check(console, [("steps", "none")])

    def test_report(self):
        console = spoken(["own 1 0 100", "own 2 4 200", "other 3 1 100", "other 4 2 100", "other 7 3 50", "price 2", "confirm 1 3"])
        self.check(console, [("report 0 9", "own 300 100 0 200 other 250 100 0 150"), ("open 1", "ok")])
        self.check(console, [("report 0 9", "own 300 0 100 200 other 250 0 100 150"), ("report 1 1", "own 0 0 0 0 other 100 0 100 0")])
        self.check(console, [("other 8 1 -500", "ok"), ("report 0 1", "own 100 0 100 0 other -400 0 100 -500")])
        self.check(console, [("report 0 0", "own 100 0 100 0 other 0 0 0 0"), ("report 1000000 1000000", "own 0 0 0 0 other 0 0 0 0")])

    def test_integers_at_their_bounds(self):
        console = spoken(["own 1000000 1000000 -1000000000000", "other 1000000 0 1000000000000", "price 1000000000000"])
        text = "price 1000000000000\nown 1000000 1000000 -1000000000000\nother 1000000 0 1000000000000"
        sums = "own -1000000000000 0 0 -1000000000000 other 1000000000000 0 0 1000000000000"
        self.check(console, [("save", text), ("report 0 1000000", sums)])

    def test_undo_and_redo_every_change(self):
        for command in ("own 9 8 -7", "other 9 8 -7", "drop own 3", "drop other 3", "price 2", "price 9", "confirm 1 1", "open 3"):
            console = filled()
            before = console.say("save")
            self.assertEqual(console.say(command), "ok")
            after = console.say("save")
            self.check(console, [("undo", "ok"), ("save", before), ("redo", "ok"), ("save", after), ("undo", "ok"), ("save", before)])

    def test_answers_are_texts(self):
        for command in RIGHT:
            self.assertIs(type(filled().say(command)), str, command)

    def test_asking_is_no_change(self):
        console = filled()
        before = state(console)
        for command in ("pairs", "left", "steps", "report 0 9", "save"):
            self.assertEqual(console.say(command), filled().say(command))
            self.assertEqual(state(console), before)

    def test_clear_leaves_nothing_to_undo(self):
        console = filled()
        self.check(console, [("clear", "ok"), ("save", "price 0"), ("left", "own - other -")])
        trying.check_raises(self, NothingToDo, "undo", console.say, "undo")
        trying.check_raises(self, NothingToDo, "redo", console.say, "redo")
        self.check(console, [("own 1 0 100", "ok"), ("undo", "ok"), ("save", "price 0")])

    def test_two_consoles_share_nothing(self):
        first, second = filled(), Console()
        self.assertEqual(second.say("save"), "price 0")
        trying.check_raises(self, NothingToDo, "undo", second.say, "undo")
        second.say("own 1 5 5")
        second.say("clear")
        self.assertEqual(first.say("save"), filled().say("save"))

    def test_against_a_comparison(self):
        draw = random.Random(16)
        for _ in range(6):
            console, told = Console(), Comparison()
            for _ in range(150):
                self.check_against(draw, console, told)

    def check_against(self, draw, console, told):
        names = {
            "own": told.add_own, "other": told.add_other, "drop own": told.drop_own, "drop other": told.drop_other,
            "price": told.set_price, "confirm": told.confirm, "open": told.open_again, "undo": told.undo, "redo": told.redo,
        }
        name = draw.choice(list(names) + ["own", "other", "confirm"])
        many = {"own": 3, "other": 3, "confirm": 2, "undo": 0, "redo": 0}.get(name, 1)
        numbers = [draw.randint(0, 12) for _ in range(many)]
        if many == 3:
            numbers[2] = draw.choice([5, 5, -5])
        results = []
        for call, rest in ((console.say, [" ".join([name, *map(str, numbers)])]), (names[name], numbers)):
            try:
                call(*rest)
                results.append(None)
            except MatchError as error:
                results.append((type(error), vars(error)))
        self.assertEqual(results[0], results[1])
        self.assertEqual(console.say("save"), comparison_text(told))
        self.assertEqual(console.say("pairs"), " ".join(f"{own_id}-{other_id}" for own_id, other_id in told.pairs()) or "none")
        steps = " ".join(f"{days}:{own_id}+{other_id}" for days, own_id, other_id in told.open_steps())
        self.assertEqual(console.say("steps"), steps or "none")
        own_left, other_left = [" ".join(map(str, row_ids)) or "-" for row_ids in told.left()]
        self.assertEqual(console.say("left"), f"own {own_left} other {other_left}")
        own_sums, other_sums = [" ".join(map(str, sums)) for sums in report(told, 2, 9)]
        self.assertEqual(console.say("report 2 9"), f"own {own_sums} other {other_sums}")
        self.assertEqual(read_comparison(console.say("save")), told)


class ErrorsTest(unittest.TestCase):
    def check(self, console, expected, value, command):
        before = state(console)
        trying.check_raises(self, expected, value, console.say, command)
        self.assertEqual(state(console), before)

    def test_errors_of_the_comparison(self):
        rows = [
            (BadLine, (0, 5, 5), "own 0 5 5"), (BadLine, (-1, 5, 5), "other -1 5 5"), (BadLine, (9, -5, 5), "own 9 -5 5"),
            (BadLine, (9, 5, 0), "other 9 5 0"), (BadLine, (1, 5, 0), "own 1 5 0"), (BadLine, (1000001, 5, 5), "own 1000001 5 5"),
            (BadLine, (9, 1000001, 5), "own 9 1000001 5"), (BadLine, (9, 5, -1000000000001), "own 9 5 -1000000000001"),
            (TakenId, 1, "own 1 5 5"), (TakenId, 3, "other 3 5 5"),
            (UnknownLine, 9, "drop own 9"), (UnknownLine, 2, "drop other 2"), (UnknownLine, -3, "drop own -3"),
            (BadPrice, -1, "price -1"), (BadPrice, 1000000000001, "price 1000000000001"),
            (UnknownLine, 9, "confirm 9 8"), (UnknownLine, 8, "confirm 1 8"), (UnknownLine, 0, "confirm 0 1"),
            (TakenLine, 3, "confirm 3 1"), (TakenLine, 3, "confirm 1 3"), (UnknownLine, 1, "open 1"), (UnknownLine, 9, "open 9"),
        ]
        for expected, value, command in rows:
            self.check(filled(), expected, value, command)

    def test_full_books(self):
        console = spoken([f"own {row_id} 0 5" for row_id in range(1, 61)] + [f"other {row_id} 0 5" for row_id in range(1, 61)])
        trying.check_raises(self, BadNumber, 61, console.say, "own 61 0 5")
        trying.check_raises(self, BadNumber, 61, console.say, "other 61 0 5")
        trying.check_raises(self, TakenId, 60, console.say, "own 60 0 5")

    def test_errors_of_reports(self):
        for first, last in [(5, 4), (-1, 5), (0, 1000001), (1000001, 1000001), (0, -1)]:
            self.check(filled(), BadSpan, (first, last), f"report {first} {last}")

    def test_nothing_to_do(self):
        self.check(Console(), NothingToDo, "undo", "undo")
        self.check(Console(), NothingToDo, "redo", "redo")
        self.check(spoken(START), NothingToDo, "redo", "redo")

    def test_integers_of_thirty_digits(self):
        great = "9" * 30
        number = int(great)
        self.check(filled(), BadPrice, number, f"price {great}")
        self.check(filled(), BadPrice, -number, f"price -{great}")
        self.check(filled(), BadLine, (number, -number, number), f"own {great} -{great} {great}")
        self.check(filled(), UnknownLine, number, f"drop own {great}")
        self.check(filled(), UnknownLine, -number, f"drop other -{great}")
        self.check(filled(), UnknownLine, number, f"confirm {great} 1")
        self.check(filled(), UnknownLine, number, f"open {great}")
        self.check(filled(), BadSpan, (0, number), f"report 0 {great}")


class BadCommandTest(unittest.TestCase):
    def check(self, command):
        for console in (filled(), Console()):
            before = state(console)
            trying.check_raises(self, BadCommand, command, console.say, command)
            self.assertEqual(state(console), before)

    def test_right_ones(self):
        for command in RIGHT:
            filled().say(command)

    def test_no_strings(self):
        for value in [value for value in trying.any_values() + trying.no_numbers() if not isinstance(value, str)]:
            self.check(value)
        for value in (["undo"], ("own", 1, 0, 5), {"undo": 1}, 5, b"save", ["own", "1", "0", "5"]):
            self.check(value)

    def test_unknown_words(self):
        for command in ["", " ", "shout", "Own 1 0 100", "OWN 1 0 100", "UNDO", "owns 1 0 100", "add 1 0 100", "drop", "drop own"]:
            self.check(command)
        for command in ["drop 1", "drop 1 1", "drop left 1", "drop price 1", "drop drop 1", "own own 1 0 100", "drop Own 1", "none", "ok"]:
            self.check(command)
        for command in ["1", "1 0 100", "-", "price", "own", "other", "confirm", "open", "report", "drop other", "quit", "pair 1 1"]:
            self.check(command)

    def test_wrong_number_of_words(self):
        for command in RIGHT:
            words = command.split(" ")
            for more in ("1", "0", "own", "5 5"):
                self.check(f"{command} {more}")
            for number in range(len(words)):
                self.check(" ".join(words[:number]))
                self.check(" ".join(words[:number] + words[number + 1:]))

    def test_blanks(self):
        for command in RIGHT:
            for text in (command + " ", " " + command, command + "  ", "  " + command):
                self.check(text)
            if " " in command:
                self.check(command.replace(" ", "  "))
                self.check(command.replace(" ", "  ", 1))
                self.check(command.replace(" ", "\t"))
                self.check(command.replace(" ", ""))

    def test_newlines(self):
        for command in RIGHT:
            for text in (command + "\n", "\n" + command, command.replace(" ", "\n", 1) + "\n", command + "\nundo"):
                self.check(text)
            if " " in command:
                self.check(command.replace(" ", "\n"))
                self.check(command.replace(" ", " \n"))

    def test_no_right_integers(self):
        wrong = ["+1", "01", "-0", "00", "-01", "--1", "-", "1.0", "1e3", "0x1", "1_0", "x", "1-", "+", "True", "None", "1,0", "\u0661"]
        for command in RIGHT:
            words = command.split(" ")
            places = [place for place, word in enumerate(words) if word.lstrip("-").isdigit()]
            for place in places:
                for word in wrong:
                    self.check(" ".join(words[:place] + [word] + words[place + 1:]))

    def test_integers_of_too_many_digits(self):
        for command in RIGHT:
            words = command.split(" ")
            places = [place for place, word in enumerate(words) if word.lstrip("-").isdigit()]
            for place in places:
                for word in ("1" * 31, "-" + "9" * 31, "0" * 31, "9" * 5000, "-" + "9" * 5000, "1" + "0" * 30):
                    self.check(" ".join(words[:place] + [word] + words[place + 1:]))

    def test_bad_command_before_the_errors_of_the_comparison(self):
        for command in ["own 0 0 +1", "price -1 5", "drop own 99 1", "confirm 99 x", "report 5 4 3", "own 1 0 100 ", "undo 1"]:
            self.check(command)


if __name__ == "__main__":
    unittest.main()

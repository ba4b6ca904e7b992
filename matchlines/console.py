"""A console: commands for one comparison, one at a time, and their answers as texts."""

from matchlines.comparison import Comparison
from matchlines.errors import BadCommand
from matchlines.reports import report
from matchlines.texts import comparison_text
from matchlines.words import wholes_of, words_of

DONE = "ok"

# How many integers stand behind each command.
COUNTS = {
    "own": 3,
    "other": 3,
    "drop own": 1,
    "drop other": 1,
    "price": 1,
    "confirm": 2,
    "open": 1,
    "undo": 0,
    "redo": 0,
    "clear": 0,
    "pairs": 0,
    "left": 0,
    "steps": 0,
    "report": 2,
    "save": 0,
}


def pairs_answer(comparison):
    """The matched pairs."""
    return _listed([f"{own_id}-{other_id}" for own_id, other_id in comparison.pairs()], "none")


def left_answer(comparison):
    """The ids of the left over lines."""
    own_ids, other_ids = [_listed([str(row_id) for row_id in row_ids], "-") for row_ids in comparison.left()]
    return f"own {own_ids} other {other_ids}"


def steps_answer(comparison):
    """The steps of the open lines."""
    return _listed([f"{days}:{own_id}+{other_id}" for days, own_id, other_id in comparison.open_steps()], "none")


def report_answer(comparison, first, last):
    """The sums of a report, or BadSpan."""
    own_sums, other_sums = report(comparison, first, last)
    return f"own {words_of(own_sums)} other {words_of(other_sums)}"


def save_answer(comparison):
    """The text of the comparison."""
    return comparison_text(comparison)


ANSWERS = {
    "pairs": pairs_answer,
    "left": left_answer,
    "steps": steps_answer,
    "report": report_answer,
    "save": save_answer,
}


class Console:
    """A comparison that is changed and asked by commands."""

    def __init__(self):
        self._comparison = Comparison()

    def say(self, command):
        """Execute a command and return its answer, or BadCommand, or an error of the comparison or of reports."""
        name, numbers = _read(command)
        if name in ANSWERS:
            answer = ANSWERS[name]
            return answer(self._comparison, *numbers)
        self._change(name, numbers)
        return DONE

    def _change(self, name, numbers):
        """Execute a command that changes something."""
        changes = {
            "own": self._comparison.add_own,
            "other": self._comparison.add_other,
            "drop own": self._comparison.drop_own,
            "drop other": self._comparison.drop_other,
            "price": self._comparison.set_price,
            "confirm": self._comparison.confirm,
            "open": self._comparison.open_again,
            "undo": self._comparison.undo,
            "redo": self._comparison.redo,
            "clear": self._clear,
        }
        change = changes[name]
        change(*numbers)

    def _clear(self):
        self._comparison = Comparison()


def _read(command):
    """The name of a command and the tuple of its integers, or BadCommand for any other value."""
    if not isinstance(command, str):
        raise BadCommand(command)
    words = command.split(" ")
    name_length = 2 if words[0] == "drop" else 1
    name = " ".join(words[:name_length])
    numbers = wholes_of(words[name_length:])
    if name not in COUNTS or len(numbers) != COUNTS[name] or None in numbers:
        raise BadCommand(command)
    return name, numbers


def _listed(texts, empty):
    """Texts separated by spaces, or what stands for none of them."""
    return " ".join(texts) if texts else empty

"""What one line more, or one pair more, changes."""

from matchlines.books import by_id, is_line, is_within
from matchlines.errors import BadLine, BadNumber, TakenId
from matchlines.steps import paired_after, steps


def days_with(own, other, line, *, is_own):
    """The days of the steps without and with one more line, or BadLine, or TakenId."""
    longer = with_line(own if is_own else other, line)
    before = steps(own, other)
    after = steps(longer, other) if is_own else steps(own, longer)
    return [step[0] for step in before], [step[0] for step in after]


def do_interlace(first, second):
    """Whether the numbers of two ascending lists interlace, the first list being the old one."""
    if len(second) - len(first) not in (0, 1):
        return False
    if not all([new <= old for old, new in zip(first, second)]):
        return False
    return all([old <= new for old, new in zip(first, second[1:])])


def step_difference(own, other, number):
    """The pairs that go and those that come at the step of this number, or BadNumber."""
    joining = steps(own, other)
    if not is_within(number, 1, len(joining)):
        raise BadNumber(number)
    before = paired_after(own, other, joining[:number - 1])
    after = paired_after(own, other, joining[:number])
    return pairs_without(before, after), pairs_without(after, before)


def with_line(book, line):
    """A new book with one more line, for any value as the line, or BadLine, or TakenId."""
    if not is_line(line):
        raise BadLine(line)
    if line[0] in by_id(book):
        raise TakenId(line[0])
    return book + [line]


def pairs_without(pairs, others):
    """The sorted pairs that are not among the others."""
    among = {pair: True for pair in others}
    return sorted([pair for pair in pairs if pair not in among])

"""The errors of the program. Each one keeps the value that it is about, itself."""


class MatchError(ValueError):
    """Any error of the program."""


class BadLine(MatchError):
    """The value is not a line."""

    def __init__(self, value):
        self.value = value


class BadPrice(MatchError):
    """The value is not a price."""

    def __init__(self, value):
        self.value = value


class BadNumber(MatchError):
    """The value is not a number that is possible here."""

    def __init__(self, value):
        self.value = value


class BadSpan(MatchError):
    """The value is not a span of days."""

    def __init__(self, value):
        self.value = value


class BadText(MatchError):
    """The value is not the text of a book or of a comparison."""

    def __init__(self, value):
        self.value = value


class BadCommand(MatchError):
    """The value is not a command of the console."""

    def __init__(self, command):
        self.command = command


class UnknownLine(MatchError):
    """No such line has this id."""

    def __init__(self, row_id):
        self.row_id = row_id


class TakenId(MatchError):
    """A line of the book has this id already."""

    def __init__(self, row_id):
        self.row_id = row_id


class TakenLine(MatchError):
    """The line with this id is in a confirmed pair already."""

    def __init__(self, row_id):
        self.row_id = row_id


class Unpaired(MatchError):
    """Of this amount there are not as many lines on both sides."""

    def __init__(self, amount):
        self.amount = amount


class NothingToDo(MatchError):
    """There is nothing to undo or to redo."""

    def __init__(self, action):
        self.action = action

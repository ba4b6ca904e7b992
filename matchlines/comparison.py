"""A comparison: two books, a price and confirmed pairs, which are changed by hand."""

from matchlines.books import is_price, is_whole
from matchlines.changes import with_line
from matchlines.errors import BadNumber, BadPrice, NothingToDo, TakenLine, UnknownLine
from matchlines.prices import matching_at
from matchlines.steps import steps


class Comparison:
    """Two books, a price and confirmed pairs, with undo and redo."""

    LIMIT = 60

    def __init__(self):
        # A list that stands in one of these is never changed, only replaced, so what is kept for undo may share it.
        self._own = []
        self._other = []
        self._price = 0
        self._confirmed = []
        self._past = []
        self._future = []

    @classmethod
    def made(cls, own, other, price, confirmed):
        """The comparison with these parts, and nothing to undo or redo."""
        built = cls()
        built._own = sorted(own)
        built._other = sorted(other)
        built._price = price
        built._confirmed = sorted(confirmed)
        return built

    def copied(self):
        """A comparison with the same parts, and nothing to undo or redo."""
        return self.made(self._own, self._other, self._price, self._confirmed)

    def __eq__(self, other):
        if not isinstance(other, Comparison):
            return False
        if self._own != other._own or self._other != other._other:
            return False
        return self._price == other._price and self._confirmed == other._confirmed

    @property
    def own(self):
        """One's own book, sorted by ids."""
        return list(self._own)

    @property
    def other(self):
        """The other book, sorted by ids."""
        return list(self._other)

    @property
    def price(self):
        """The price."""
        return self._price

    @property
    def confirmed(self):
        """The confirmed pairs, sorted by own ids."""
        return list(self._confirmed)

    def add_own(self, row_id, day, amount):
        """Add an own line, or BadLine, TakenId or BadNumber."""
        longer = self._longer(self._own, (row_id, day, amount))
        self._keep()
        self._own = longer

    def add_other(self, row_id, day, amount):
        """Add a line to the other book, or BadLine, TakenId or BadNumber."""
        longer = self._longer(self._other, (row_id, day, amount))
        self._keep()
        self._other = longer

    def drop_own(self, row_id):
        """Drop an own line and its confirmed pair, or UnknownLine."""
        _check_known(self._own, row_id)
        self._keep()
        self._own = [line for line in self._own if line[0] != row_id]
        self._confirmed = [pair for pair in self._confirmed if pair[0] != row_id]

    def drop_other(self, row_id):
        """Drop a line of the other book and its confirmed pair, or UnknownLine."""
        _check_known(self._other, row_id)
        self._keep()
        self._other = [line for line in self._other if line[0] != row_id]
        self._confirmed = [pair for pair in self._confirmed if pair[1] != row_id]

    def set_price(self, price):
        """Set the price, or BadPrice."""
        if not is_price(price):
            raise BadPrice(price)
        self._keep()
        self._price = price

    def confirm(self, own_id, other_id):
        """Confirm a pair, or UnknownLine or TakenLine."""
        _check_known(self._own, own_id)
        _check_known(self._other, other_id)
        if own_id in [pair[0] for pair in self._confirmed]:
            raise TakenLine(own_id)
        if other_id in [pair[1] for pair in self._confirmed]:
            raise TakenLine(other_id)
        self._keep()
        self._confirmed = sorted(self._confirmed + [(own_id, other_id)])

    def open_again(self, own_id):
        """Open the confirmed pair of an own line again, or UnknownLine."""
        _check_known(self._confirmed, own_id)
        self._keep()
        self._confirmed = [pair for pair in self._confirmed if pair[0] != own_id]

    def pairs(self):
        """The matched pairs."""
        return matching_at(self.open_own(), self.open_other(), self._price)

    def open_own(self):
        """The own lines that are in no confirmed pair, sorted by ids."""
        return _without(self._own, [pair[0] for pair in self._confirmed])

    def open_other(self):
        """The lines of the other book that are in no confirmed pair, sorted by ids."""
        return _without(self._other, [pair[1] for pair in self._confirmed])

    def left(self):
        """The ids of the lines that are in no confirmed and in no matched pair, of both books."""
        pairs = self.pairs()
        own_left = _without(self.open_own(), [pair[0] for pair in pairs])
        other_left = _without(self.open_other(), [pair[1] for pair in pairs])
        return [line[0] for line in own_left], [line[0] for line in other_left]

    def open_steps(self):
        """The steps of the open lines."""
        return steps(self.open_own(), self.open_other())

    def undo(self):
        """Take back the last change that was not undone, or NothingToDo."""
        if not self._past:
            raise NothingToDo("undo")
        self._future.append(self._parts())
        self._become(self._past.pop())

    def redo(self):
        """Do the last undone change again, or NothingToDo."""
        if not self._future:
            raise NothingToDo("redo")
        self._past.append(self._parts())
        self._become(self._future.pop())

    def _longer(self, book, line):
        """A book with one more line, sorted by ids, or BadLine, TakenId or BadNumber."""
        longer = with_line(book, line)
        if len(longer) > self.LIMIT:
            raise BadNumber(self.LIMIT + 1)
        return sorted(longer)

    def _parts(self):
        return self._own, self._other, self._price, self._confirmed

    def _become(self, parts):
        self._own, self._other, self._price, self._confirmed = parts

    def _keep(self):
        """Keep what is for undo; called by a change when no error can be raised any more."""
        self._past.append(self._parts())
        self._future = []


def _check_known(rows, row_id):
    """UnknownLine if any value is not the id that one of these lines or pairs begins with."""
    # Asked first, since True is equal to 1.
    if not is_whole(row_id) or row_id not in [row[0] for row in rows]:
        raise UnknownLine(row_id)


def _without(book, row_ids):
    """The lines of a book that have none of these ids."""
    among = {row_id: True for row_id in row_ids}
    return [line for line in book if line[0] not in among]

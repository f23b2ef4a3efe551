"""A ledger of rows under names, with pledges that they keep, and changes that can be taken back."""

from hookstrips.base.numbers import MOST_INTEGER, check_between, is_between, is_name, list_text
from hookstrips.diagonal.bounds import MAX_MODULUS, MIN_MODULUS, Bounds, is_bounded
from hookstrips.errors import (
    InvalidOperation, InvalidPledge, InvalidWord, NothingToUndo, Refused, TooMany, UnknownName,
)
from hookstrips.kinds.gaps import MIN_ORDER, MOST_ORDER, Kind, is_gap_row
from hookstrips.kinds.rests import is_rank_row
from hookstrips.shape.boxes import MAX_SIDE, fits
from hookstrips.shape.ranks import crossed
from hookstrips.shape.rows import check_row, turned
from hookstrips.shape.words import lowered, raised

MAX_ROWS = 6
MAX_PLEDGES = 10
MAX_PARTS = 60
MAX_PART = 200


def is_pledge(value):
    """Whether the value is a pledge, whatever the ledger."""
    if not isinstance(value, tuple) or len(value) < 3 or not is_name(value[1]):
        return False
    what, numbers = value[0], value[2:]
    if what == "size":
        return len(numbers) == 1 and is_between(numbers[0], 0, MOST_INTEGER)
    if what == "box":
        return len(numbers) == 2 and all([is_between(side, 0, MAX_SIDE) for side in numbers])
    if what == "bounded":
        return len(numbers) == 4 and _tell_bounds(numbers)
    return what in ("gap", "rank") and len(numbers) == 2 and _tell_kind(numbers)


def _tell_bounds(numbers):
    """Whether four values are the integers K, i, alpha and beta of bounds."""
    modulus, first, alpha, beta = numbers
    if not is_between(modulus, MIN_MODULUS, MAX_MODULUS) or not is_between(first, 1, modulus - 1):
        return False
    return is_between(alpha, 1, modulus - 2) and is_between(beta, 1, modulus - 1 - alpha)


def _tell_kind(numbers):
    """Whether two values are the integers k and i of a kind."""
    order, first = numbers
    return is_between(order, MIN_ORDER, MOST_ORDER) and is_between(first, 1, order)


def _is_kept(pledge, row):
    """Whether a row is as a pledge says."""
    what, numbers = pledge[0], pledge[2:]
    if what == "size":
        return sum(row) == numbers[0]
    if what == "box":
        return fits(row, numbers[0], numbers[1])
    if what == "bounded":
        return is_bounded(Bounds(numbers[0], numbers[1], numbers[2], numbers[3]), row)
    kind = Kind(numbers[0], numbers[1])
    return is_gap_row(kind, row) if what == "gap" else is_rank_row(kind, row)


def _check_pledges(rows, pledges):
    """Raise Refused for the first pledge that would not hold."""
    for pledge in pledges:
        if pledge[1] not in rows or not _is_kept(pledge, rows[pledge[1]]):
            raise Refused(pledge)


def _check_parts(row):
    """Raise TooMany if a row has too many parts, or a part that is too great."""
    if len(row) > MAX_PARTS:
        raise TooMany(MAX_PARTS)
    if row != () and row[0] > MAX_PART:
        raise TooMany(MAX_PART)


def _without(lines, others):
    """The tuple of those lines that are not among the other ones."""
    return tuple([line for line in lines if line not in others])


class State:
    """How a ledger stands; it never changes, so ledgers, twins and trials can share it."""

    def __init__(self, rows, pledges, past, later):
        self._rows = rows
        self._pledges = pledges
        self._lines = tuple([f"{name}: {list_text(rows[name])}" for name in sorted(rows)])
        # The pairs of rows and pledges to which undo and redo lead.
        self._past = past
        self._later = later


class Trial:
    """What a with statement over a ledger enters: behind its block the ledger is as it was ahead of it."""

    def __init__(self, ledger):
        self._ledger = ledger
        self._state = None

    def __enter__(self):
        self._state = self._ledger._state
        return self._ledger

    def __exit__(self, kind, value, trace):
        ledger = self._ledger
        ledger._state = self._state


class Ledger:
    """A ledger; its rows and pledges are changed by the methods from put to waive, by undo and by redo."""

    def __init__(self):
        self._state = State({}, (), (), ())

    @property
    def labels(self):
        """The names of the rows, ascending."""
        return tuple(sorted(self._state._rows))

    @property
    def lines(self):
        """The lines, by ascending names."""
        return self._state._lines

    @property
    def pledges(self):
        """The pledges, in the order of demands."""
        return self._state._pledges

    @property
    def changes(self):
        """How many changes can be taken back."""
        return len(self._state._past)

    def __contains__(self, value):
        """Whether the value is a line or a pledge of the ledger."""
        if isinstance(value, str):
            return value in self._state._lines
        # A tuple that has True in the place of 1 equals a pledge, but is none.
        return is_pledge(value) and value in self._state._pledges

    def __len__(self):
        return len(self._state._pledges)

    def __iter__(self):
        return iter(self._state._lines)

    def __eq__(self, other):
        return (
            isinstance(other, Ledger) and self._state._rows == other._state._rows
            and self._state._pledges == other._state._pledges
        )

    def __str__(self):
        return f"ledger of {len(self._state._rows)} rows, {len(self._state._pledges)} pledges"

    def row_named(self, name):
        """The row with this name."""
        if not is_name(name) or name not in self._state._rows:
            raise UnknownName(name)
        return self._state._rows[name]

    def put(self, name, row):
        """Put a further row under a new name."""
        self._check_new(name)
        check_row(row)
        return self._with_further(name, row)

    def _check_new(self, name):
        """Raise InvalidOperation unless the value is a name that no row of the ledger has."""
        if not is_name(name) or name in self._state._rows:
            raise InvalidOperation("not a name, or that of a row of the ledger")

    def _with_further(self, name, row):
        """Put a row under a name that is new, unless there are six rows."""
        if len(self._state._rows) == MAX_ROWS:
            raise TooMany(MAX_ROWS)
        return self._with_row(name, row)

    def _with_row(self, name, row):
        """Let this row stand under the name, and return the news."""
        rows = dict(self._state._rows)
        rows[name] = row
        return self._change(rows, self._state._pledges)

    def twice(self, name, one):
        """Put a row under a new name that is equal to the one with the name `one`."""
        self._check_new(name)
        return self._with_further(name, self.row_named(one))

    def lessen(self, name):
        """Lower a row."""
        row, _ = lowered(self.row_named(name))
        return self._with_row(name, row)

    def lift(self, name, letter):
        """Raise a row with a letter."""
        return self._with_checked(name, raised(self.row_named(name), letter))

    def turn(self, name):
        """Turn a row."""
        return self._with_checked(name, turned(self.row_named(name)))

    def cross(self, name):
        """Cross a row."""
        return self._with_checked(name, crossed(self.row_named(name)))

    def _with_checked(self, name, row):
        """Let this row stand under the name, unless it is too long or too wide."""
        _check_parts(row)
        return self._with_row(name, row)

    def drop(self, name):
        """Leave a row out."""
        self.row_named(name)
        rows = dict(self._state._rows)
        del rows[name]
        return self._change(rows, self._state._pledges)

    def rename(self, names):
        """Give the rows other names, by a dict from just the names of the ledger."""
        rows = self._state._rows
        self._check_names(names)
        return self._change({names[name]: rows[name] for name in rows}, self._state._pledges)

    def _check_names(self, names):
        """Raise InvalidOperation unless the value is a dict from just these names to names unlike one another."""
        if not isinstance(names, dict) or len(names) != len(self._state._rows):
            raise InvalidOperation("not a dict from just the names of the ledger")
        if not all([name in self._state._rows and is_name(names[name]) for name in names]):
            raise InvalidOperation("not a dict from just the names of the ledger to names")
        if len(set(list(names.values()))) < len(names):
            raise InvalidOperation("two rows would have one name")

    def demand(self, pledge):
        """Demand a further pledge."""
        if not is_pledge(pledge):
            raise InvalidPledge("not a pledge")
        if pledge in self._state._pledges:
            raise InvalidOperation("the pledge is there already")
        if len(self._state._pledges) == MAX_PLEDGES:
            raise TooMany(MAX_PLEDGES)
        return self._change(self._state._rows, self._state._pledges + (pledge,))

    def waive(self, pledge):
        """Leave a pledge out."""
        if not is_pledge(pledge) or pledge not in self._state._pledges:
            raise InvalidOperation("the pledge is not there")
        others = tuple([other for other in self._state._pledges if other != pledge])
        return self._change(self._state._rows, others)

    def _change(self, rows, pledges):
        """Make a change, unless a pledge would not hold, and return the news."""
        _check_pledges(rows, pledges)
        now = self._state
        return self._show(State(rows, pledges, now._past + ((now._rows, now._pledges),), ()))

    def _show(self, state):
        """Let the ledger stand so, and return the news."""
        before = self._state._lines
        self._state = state
        return _without(before, state._lines), _without(state._lines, before)

    def undo(self, *, many=1):
        """Take so many changes back, and return the news in all."""
        check_between(many, 0, MOST_INTEGER)
        if many > len(self._state._past):
            raise NothingToUndo(many)
        return self._go_to(len(self._state._past) - many)

    def redo(self, *, many=1):
        """Do so many changes again, and return the news in all."""
        check_between(many, 0, MOST_INTEGER)
        if many > len(self._state._later):
            raise NothingToUndo(many)
        return self._go_to(len(self._state._past) + many)

    def _go_to(self, at):
        """Let the ledger be as behind so many of all changes, those that were taken back among them."""
        now = self._state
        pages = now._past + ((now._rows, now._pledges),) + now._later
        rows, pledges = pages[at]
        return self._show(State(rows, pledges, pages[:at], pages[at + 1:]))

    def trial(self):
        """What a with statement enters: behind its block the ledger is as it was ahead of it."""
        return Trial(self)

    def during(self, call):
        """What the call returns for the ledger in such a block."""
        with self.trial() as same:
            return call(same)

    def twin(self):
        """An independent copy, with all changes that can be taken back or done again."""
        other = Ledger()
        other._state = self._state
        return other

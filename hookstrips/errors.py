"""All errors of the package, those of later stages among them."""


class HookError(ValueError):
    """The base of the errors that a wrong value of some kind has."""


class InvalidRow(HookError):
    """The value is not a row, or not the columns of one."""


class InvalidWord(HookError):
    """The value is not a word, or not such a string as is asked for."""


class InvalidPoly(HookError):
    """The value is not a polynomial, or not a series."""


class InvalidBox(HookError):
    """The value is not a box."""


class InvalidBounds(HookError):
    """The value is not an object of bounds."""


class InvalidWalk(HookError):
    """The value is not a strip, a walk in one, or a path."""


class InvalidKind(HookError):
    """The value is not a kind."""


class InvalidPledge(HookError):
    """The value is not a pledge."""


class InvalidOperation(HookError):
    """The values do not allow what is asked for."""


class ParseError(HookError):
    """The text is wrong at the index `spot`."""

    def __init__(self, spot):
        self.spot = spot


class InvalidNumber(IndexError):
    """The value `given` is not an integer within the told bounds."""

    def __init__(self, given):
        self.given = given


class UnknownName(KeyError):
    """Nothing has the name `name`."""

    def __init__(self, name):
        self.name = name


class NothingToUndo(RuntimeError):
    """There are fewer than `wanted` changes to take back or to do again."""

    def __init__(self, wanted):
        self.wanted = wanted


class TooMany(OverflowError):
    """There would be more than `limit` of the things that are counted."""

    def __init__(self, limit):
        self.limit = limit


class Refused(ArithmeticError):
    """What is asked for is refused, for the reason `reason`."""

    def __init__(self, reason):
        self.reason = reason

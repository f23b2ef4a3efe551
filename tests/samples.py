"""Values and listings that several tests use; nothing here comes from the package's functions."""

from hookstrips.errors import HookError, InvalidNumber

# The greatest integer of sixty digits, and the least one of sixty-one.
LONGEST = 10 ** 60 - 1
TOO_LONG = 10 ** 60

EIGHT_DEEP = ((((((((1,),),),),),),),)

OBJECTS = [HookError("a"), InvalidNumber(1)]

NO_INTEGERS = [
    None, True, False, "", "1", "-", [], [1], {}, {1: 2}, (), (1,), ((1, 1),), EIGHT_DEEP,
    TOO_LONG, -TOO_LONG, 10 ** 99, -(10 ** 99), *OBJECTS,
]

NO_TUPLES = [
    None, True, False, 0, 1, -1, TOO_LONG, "", "1", "-", "1 1", [], [1], [(1, 1)], {}, {1: 2}, {(1, 1): 1}, *OBJECTS,
]

NO_INTEGERS_INSIDE = [
    (None,), (True,), (False,), (2, True), ("",), ("1",), ([],), ([1],), ({},), ((),), ((1,),), ((1, 1), 1),
    EIGHT_DEEP, (TOO_LONG,), (-TOO_LONG,), (1, None), tuple(OBJECTS),
]

NO_STRINGS = [None, True, False, 0, 5, TOO_LONG, [], ["1"], {}, {"1": 1}, (), ("1",), EIGHT_DEEP, *OBJECTS]


def rows_of_size(size, most=None):
    """All rows of a size, each part at most `most`."""
    if size == 0:
        return [()]
    most = size if most is None else min(size, most)
    return [(part,) + rest for part in range(1, most + 1) for rest in rows_of_size(size - part, part)]


def rows_to_size(size):
    """All rows of a size of at most `size`."""
    return [row for each in range(size + 1) for row in rows_of_size(each)]


def squares(row):
    """The set of the squares of a row."""
    return {(at + 1, c) for at, part in enumerate(row) for c in range(1, part + 1)}

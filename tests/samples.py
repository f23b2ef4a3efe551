"""Values and listings that several tests use; nothing here comes from the package's functions."""

import itertools

from hookstrips.diagonal.bounds import Bounds
from hookstrips.errors import HookError, InvalidNumber
from hookstrips.kinds.gaps import Kind
from hookstrips.shape.boxes import Box
from hookstrips.walled.walks import Strip

FOUR = Box(4, 4)
FIVE = Bounds(5, 2, 1, 1)
SEVEN = Bounds(7, 3, 2, 2)
STRIP = Strip(5)
PAIR = Kind(2, 2)
TRIPLE = Kind(3, 2)

# The greatest integer of sixty digits, and the least one of sixty-one.
LONGEST = 10 ** 60 - 1
TOO_LONG = 10 ** 60

EIGHT_DEEP = ((((((((1,),),),),),),),)

OBJECTS = [HookError("a"), InvalidNumber(1), FOUR, FIVE, STRIP, PAIR]

NO_INTEGERS = [
    None, True, False, "", "1", "-", [], [1], {}, {1: 2}, (), (1,), ((1, 1),), EIGHT_DEEP,
    TOO_LONG, -TOO_LONG, 10 ** 99, -(10 ** 99), *OBJECTS,
]

NO_TUPLES = [
    None, True, False, 0, 1, -1, TOO_LONG, "", "1", "-", "1 1", [], [1], [(1, 1)], {}, {1: 2}, {(1, 1): 1}, *OBJECTS,
]

NO_INTEGERS_INSIDE = [
    (None,), (True,), (False,), (2, True), ("",), ("1",), ([],), ([1],), ({},), ((),), ((1,),), ((1, 1), 1),
    EIGHT_DEEP, (TOO_LONG,), (-TOO_LONG,), (1, None), tuple(OBJECTS),
]

NO_OBJECTS = [
    None, True, False, 0, 4, TOO_LONG, "", "4", "box 4 wide, 4 high", "bounds 5 2 1 1", "strip 1 to 4", "kind 3, 2", [],
    [4, 4], {}, {4: 4}, (), (4, 4), (5, 2, 1, 1), ((4, 4),), EIGHT_DEEP, *OBJECTS,
]

NO_STRINGS = [None, True, False, 0, 5, TOO_LONG, [], ["1"], {}, {"1": 1}, (), ("1",), EIGHT_DEEP, *OBJECTS]


def rows_of_size(size, most=None):
    """All rows of a size, each part at most `most`."""
    if size == 0:
        return [()]
    most = size if most is None else min(size, most)
    return [(part,) + rest for part in range(1, most + 1) for rest in rows_of_size(size - part, part)]


def rows_to_size(size):
    """All rows of a size of at most `size`."""
    return [row for each in range(size + 1) for row in rows_of_size(each)]


def squares(row):
    """The set of the squares of a row."""
    return {(at + 1, c) for at, part in enumerate(row) for c in range(1, part + 1)}


def rows_in_box(wide, high):
    """The set of all rows in a box, each by its parts, the least one first."""
    rising = itertools.combinations_with_replacement(range(wide + 1), high)
    return {tuple(part for part in parts[::-1] if part > 0) for parts in rising}


def turned_by_squares(row):
    """The turned row, out of the set of all squares."""
    flipped = {(c, r) for r, c in squares(row)}
    many = max([r for r, _ in flipped], default=0)
    return tuple(len([1 for r, _ in flipped if r == at]) for at in range(1, many + 1))


def counted(sizes):
    """The polynomial that counts things by size."""
    sizes = list(sizes)
    return tuple(sizes.count(size) for size in range(max(sizes, default=-1) + 1))


def value_at(poly, q):
    """The value of a polynomial at an integer q."""
    total = 0
    for number in reversed(poly):
        total = total * q + number
    return total


def words_to(many):
    """All words of at most so many letters."""
    heads = ["".join(letters) for length in range(many) for letters in itertools.product("ab", repeat=length)]
    return [""] + [head + "b" for head in heads]

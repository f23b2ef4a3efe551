"""What the parameters of functions take: right values, wrong ones, and those at the bounds."""

from hookstrips.diagonal.bounds import Bounds
from hookstrips.errors import (
    InvalidBounds, InvalidBox, InvalidKind, InvalidNumber, InvalidOperation, InvalidPledge, InvalidPoly, InvalidRow,
    InvalidWalk, InvalidWord, ParseError, UnknownName,
)
from hookstrips.kinds.gaps import Kind
from hookstrips.shape.boxes import Box
from hookstrips.walled.walks import Strip
from tests.samples import (
    FIVE, FOUR, LONGEST, NO_INTEGERS, NO_INTEGERS_INSIDE, NO_OBJECTS, NO_STRINGS, NO_TUPLES, PAIR, SEVEN, STRIP,
    TOO_LONG, TRIPLE,
)


class Place:
    """What a parameter takes: a right value, wrong ones, the values at its bounds, and the error."""

    def __init__(self, right, error, wrong, edges=()):
        self.right = right
        self.error = error
        self.wrong = wrong
        self.edges = edges

    def is_kept(self, error, value):
        if self.error is InvalidNumber:
            return error.given is value
        if self.error is UnknownName:
            return error.name is value
        return self.error is not ParseError or error.spot == 0


def integer(right, least=-LONGEST, most=LONGEST, edges=None):
    """An integer from least to most; at these two the call holds beside other right values, or at `edges`."""
    wrong = NO_INTEGERS + [least - 1, most + 1]
    return Place(right, InvalidNumber, wrong, (least, most) if edges is None else edges)


def goal(right, last):
    """A height of a strip with the heights 1 to 4 that differs by 1 from the last one, which is 2 or 3."""
    wrong = NO_INTEGERS + [height for height in range(-1, 7) if abs(height - last) != 1]
    return Place(right, InvalidNumber, wrong, (last - 1, last + 1))


def listing(right, most, error):
    wrong = NO_TUPLES + NO_INTEGERS_INSIDE + [(1,) * (most + 1)]
    return Place(right, error, wrong, ((), (1,) * most, (LONGEST, -LONGEST)))


def poly(right):
    wrong = NO_TUPLES + NO_INTEGERS_INSIDE + [(0,), (1, 0), (0, 0), (1, False), (1,) * 4001]
    return Place(right, InvalidPoly, wrong, ((), (0, 1), (1,) * 4000, (-LONGEST, LONGEST)))


def row(right):
    wrong = NO_TUPLES + NO_INTEGERS_INSIDE + [
        (0,), (1, 0), (-1,), (1, 2), (3, 1, 2), (201,), (201, 1), (LONGEST,), (1,) * 61, (200,) * 61, (1, True),
    ]
    return Place(right, InvalidRow, wrong, ((), (1,), (200,) * 60, (1,) * 60))


def column_pairs(right):
    falling = tuple((199 - at, 199 - at) for at in range(61))
    wrong = NO_TUPLES + NO_INTEGERS_INSIDE + [
        (1,), (1, 1), ([1, 1],), ((1,),), ((1, 1, 1),), ((),), ("11",), ((200, 1),), ((1, 200),), ((-1, 1),),
        ((1, -1),), ((True, 1),), ((1, False),), ((1, None),), (("1", 1),), ((1, 1), (0, 1)), ((1, 1), (1, 0)),
        ((0, 0), (1, 1)), ((3, 3), (2, 2), (2, 1)), ((TOO_LONG, 1),), (((1, 1),),), ((1, 1), None), falling,
    ]
    return Place(right, InvalidRow, wrong, ((), ((0, 0),), ((199, 0),), ((0, 199),), falling[:60]))


def text(right):
    return Place(right, ParseError, NO_STRINGS + ["1" * 4001, "1 " * 2001, "x", ""], ("-", "0"))


def word(right):
    wrong = NO_STRINGS + ["a", "ba", "bba", "aab ", " b", "aB", "B", "acb", "0b", "b" * 401, "a" * 400, "a" * 400 + "b"]
    return Place(right, InvalidWord, wrong, ("", "b", "b" * 400, "a" * 399 + "b", "ab" * 200))


def letter(right):
    return Place(right, InvalidWord, NO_STRINGS + ["", "ab", "aa", "c", "A", "B", "b ", " ", "e"], ("a", "b"))


def letters_of_four(right, one, other):
    """A string of four of both letters."""
    full = one * 4 + other * 4
    wrong = NO_STRINGS + [
        "", one, full[1:], full[:-1], full + one, full + other, full[:-1] + one, full[:-1] + "x", full[:-1] + " ",
        full.upper(), "xxxxxxxx", "x" + full[1:], full * 2, full * 500,
    ]
    return Place(right, InvalidWord, wrong, (full, full[::-1]))


def box(right=FOUR, edges=()):
    return Place(right, InvalidBox, [value for value in NO_OBJECTS if not isinstance(value, Box)], edges)


def bounds(right=SEVEN, edges=(FIVE,)):
    return Place(right, InvalidBounds, [value for value in NO_OBJECTS if not isinstance(value, Bounds)], edges)


def strip(right=STRIP):
    return Place(right, InvalidWalk, [value for value in NO_OBJECTS if not isinstance(value, Strip)])


def walk(right):
    """A walk in a strip with the heights 1 to 4."""
    wrong = NO_TUPLES + NO_INTEGERS_INSIDE + [
        (), (1,), (0, 1), (1, 0), (4, 5), (5, 4), (1, 3), (2, 2), (1, 2, 4), (2, 3, 4, 5), (True, 2), (2, True),
        (1, 2, None), (1, 2, (3,)), (1, 2, "3"), (2, 1, 0, 1), (-1, -2), (1, 2) * 31 + (1,), (1, 2) * 32,
    ]
    return Place(right, InvalidWalk, wrong, ((1, 2), (4, 3), (1, 2) * 31, (1, 2, 3, 4, 3)))


def kind(right=TRIPLE, edges=(PAIR, Kind(2, 1), Kind(8, 1), Kind(8, 8))):
    return Place(right, InvalidKind, [value for value in NO_OBJECTS if not isinstance(value, Kind)], edges)


def series(right):
    wrong = NO_TUPLES + NO_INTEGERS_INSIDE + [(), (1,) * 402, (1, False), (1,) * 4001]
    return Place(right, InvalidPoly, wrong, ((0,), (1,), (1, 0), (1,) * 401, (0,) * 401, (1, -LONGEST, LONGEST)))


def ascending_parts(right):
    wrong = NO_TUPLES + NO_INTEGERS_INSIDE + [
        (0,), (0, 1), (-1, 1), (401,), (1, 401), (1, 1), (2, 1), (1, 3, 2), (1, 2, 2), (True, 2), (LONGEST,),
        tuple(range(1, 402)), tuple(range(400)), (1,) * 401,
    ]
    return Place(right, InvalidOperation, wrong, ((), (1,), (400,), tuple(range(1, 401))))


def sides(right):
    wrong = NO_TUPLES + NO_INTEGERS_INSIDE + [
        (0,), (1, 0), (11,), (11, 1), (1, 2), (3, 1, 2), (-1,), (2, True), (1,) * 8, (10,) * 8, (LONGEST,),
    ]
    return Place(right, InvalidOperation, wrong, ((), (1,), (10,), (1,) * 7, (10,) * 7))


def pieces(right):
    """Pairs of a side and of the row beside it."""
    wrong = NO_TUPLES + NO_INTEGERS_INSIDE + [
        (1,), (1, ()), ((1,),), ((1, (), ()),), ([1, ()],), ((1, []),), ((1, None),), ((1, 1),), ((True, ()),),
        ((None, ()),), (((), 1),), ((0, ()),), ((-1, ()),), ((1, (0,)),), ((1, (True,)),), ((1, (1, 1)),),
        ((2, (1, 2)),), ((2, (1, 1, 1)),), ((1, ()), (2, ())), ((1, ()), (1, (1,))), ((2, ()), (1, (2,))),
        ((2, ()), (2, (1,))), ((1, ()), None), ((1, ()), (1,)), ((1, (200,)),), ((1, (199,)), (2, ())), ((61, ()),),
        ((60, ()), (1, ())), ((1, ()),) * 61, ((1, (200,)),) * 5, ((LONGEST, ()),), ((TOO_LONG, ()),),
        ((1, (TOO_LONG,)),),
    ]
    edges = ((), ((1, ()),), ((1, (199,)),), ((60, (140,) * 60),), ((1, ()),) * 60, ((30, ()), (30, ())))
    return Place(right, InvalidOperation, wrong, edges)


def path(right):
    """A path of the kind 3, 2."""
    wrong = NO_TUPLES + NO_INTEGERS_INSIDE + [
        (), (0,), (2,), (1, 0), (1, 1), (1, 3), (1, 2, 3), (1, 2, 1), (1, 2, 2), (1, 2, 0), (0, 1), (1, 0, 0), (1, -1),
        (1, -1, 0), (1, 0, 2), (True,), (True, 2), (1, True), (1, False, 1), (1, 2, None), (1, 2, "1", 2), [1, 2],
        (1,) + (0,) * 399 + (1, 2), (1, 2) * 201, (1, TOO_LONG), (1, LONGEST),
    ]
    return Place(right, InvalidWalk, wrong, ((1,), (1, 2), (1, 0, 1), (1,) + (0,) * 399 + (1,), (1, 2) * 200))


def peaks(right):
    """Peaks for the kind 3, 2, whether or not there is a path with them."""
    wrong = NO_TUPLES + NO_INTEGERS_INSIDE + [
        (1, 1), ([1, 1],), ((1,),), ((1, 1, 1),), ("11",), ((0, 1),), ((401, 1),), ((1, 0),), ((1, 3),), ((-1, 1),),
        ((1, -1),), ((True, 1),), ((1, True),), ((None, 1),), ((1, None),), (("1", 1),), ((1, (1,)),), ((1, [1]),),
        ((2, 1), (1, 1)), ((2, 1), (2, 2)), ((1, 1), (3, 1), (2, 1)), ((1, 1), (401, 1)), ((1, 1), None),
        ((TOO_LONG, 1),), ((1, TOO_LONG),), ((1, 1),) * 401,
    ]
    edges = ((), ((1, 1),), ((1, 2),), ((400, 2),), ((399, 1), (400, 2)), tuple((at, 1) for at in range(1, 401)))
    return Place(right, InvalidOperation, wrong, edges)


def class_numbers(right):
    """A class of kinds of the order 3."""
    wrong = NO_TUPLES + NO_INTEGERS_INSIDE + [
        (), (1,), (1, 1, 1), (2, 1, 0), (1, 2), (0, 1), (21, 0), (21, 21), (1, -1), (-1, -1), (True, 0), (1, True),
        (1, None), (LONGEST, 0), (1, False), (0, False),
    ]
    return Place(right, InvalidOperation, wrong, ((0, 0), (20, 20), (20, 0), (1, 1)))


NO_NAMES = NO_STRINGS + ["", "A", "aB", "a ", "1", "a1", "-", "abcdefghi", "a" * 4000]


def new_name(right):
    """A name that no row of a ledger with the names a and b has."""
    return Place(right, InvalidOperation, NO_NAMES + ["a", "b"], ("c", "z", "zzzzzzzz", "ab", "aa"))


def known_name(right):
    """A name of a ledger with the names a and b."""
    return Place(right, UnknownName, NO_NAMES + ["c", "ab", "ba", "a, b"], ("a", "b"))


def new_names(right):
    """A dict from the names a and b to other ones."""
    wrong = NO_STRINGS + [
        "ab", ("a", "b"), [("a", "c"), ("b", "d")], {"a": "c"}, {"b": "c"}, {"a": "c", "b": "c"}, {"a": "b", "b": "b"},
        {"a": "c", "b": "d", "c": "e"}, {"a": "c", "c": "d"}, {"a": "c", "b": "D"}, {"a": "c", "b": ""},
        {"a": "c", "b": "abcdefghi"}, {"a": "c", "b": None}, {"a": "c", "b": ["d"]}, {"a": "c", "b": {}},
        {"a": "c", "b": ("d",)}, {"a": 1, "b": 2}, {0: "c", 1: "d"}, {None: "c", "b": "d"}, {("a",): "c", "b": "d"},
        {True: "c", False: "d"},
    ]
    edges = ({"b": "d", "a": "c"}, {"a": "b", "b": "a"}, {"a": "a", "b": "b"}, {"a": "a", "b": "zzzzzzzz"})
    return Place(right, InvalidOperation, wrong, edges)


NO_PLEDGES = NO_TUPLES + NO_INTEGERS_INSIDE + NO_STRINGS + [
    ("size",), ("size", "a"), ("size", "a", -1), ("size", "a", True), ("size", "a", TOO_LONG), ("size", "a", None),
    ("size", "a", 1, 1), ("size", "A", 1), ("size", "", 1), ("size", 1, 1), ("size", None, 1), ("size", "abcdefghi", 1),
    ("size", "a", "1"), ("size", "a", (1,)), ("Size", "a", 1), ("sizes", "a", 1), ("", "a", 1), (None, "a", 1),
    (1, "a", 1), (["size"], "a", 1), ["size", "a", 1], ("size", ("a",), 1), ("size", ["a"], 1), ("a", "size", 1),
    ("box", "a"), ("box", "a", 1), ("box", "a", 1, 1, 1), ("box", "a", -1, 1), ("box", "a", 1, -1), ("box", "a", 41, 1),
    ("box", "a", 1, 41), ("box", "a", True, 1), ("box", "a", 1, False), ("box", "a", (1, 1)), ("box", "a", None, 1),
    ("box", "a", FOUR), ("box", 1, 1, 1), ("bounded", "a"), ("bounded", "a", 5, 2, 1), ("bounded", "a", 5, 2, 1, 1, 1),
    ("bounded", "a", 2, 1, 1, 1), ("bounded", "a", 18, 1, 1, 1), ("bounded", "a", 5, 0, 1, 1),
    ("bounded", "a", 5, 5, 1, 1), ("bounded", "a", 5, 2, 0, 1), ("bounded", "a", 5, 2, 4, 1),
    ("bounded", "a", 5, 2, 1, 0), ("bounded", "a", 5, 2, 1, 4), ("bounded", "a", 5, 2, 2, 3),
    ("bounded", "a", True, 2, 1, 1), ("bounded", "a", 5, True, 1, 1), ("bounded", "a", 5, 2, True, 1),
    ("bounded", "a", 5, 2, 1, True), ("bounded", "a", None, 2, 1, 1), ("bounded", "a", 5, None, 1, 1),
    ("bounded", "a", 5, 2, None, 1), ("bounded", "a", 5, 2, 1, None), ("bounded", "A", 5, 2, 1, 1),
    ("bounded", "a", FIVE), ("bounded", "a", (5, 2, 1, 1)),
] + [
    (what,) + rest for what in ("gap", "rank") for rest in (
        (), ("a",), ("a", 2), ("a", 2, 2, 2), ("a", 1, 1), ("a", 9, 1), ("a", 3, 0), ("a", 3, 4), ("a", True, 1),
        ("a", 2, True), ("a", None, 1), ("a", 3, None), ("a", 3, "2"), ("A", 3, 2), ("a", PAIR), ("a", (2, 2)), (2, 2),
        (2, 2, "a"), ("", 3, 2),
    )
] + [("other", "a", 3, 2), ("GAP", "a", 3, 2), (None, "a", 3, 2), ("rank", "a", TOO_LONG, 1)]


def pledge(right):
    """A pledge that a ledger does not have; some do not hold."""
    edges = (
        ("size", "a", 0), ("size", "zzzzzzzz", LONGEST), ("box", "a", 0, 0), ("box", "b", 40, 40),
        ("bounded", "a", 3, 1, 1, 1), ("bounded", "a", 17, 16, 15, 1), ("bounded", "a", 17, 1, 1, 15),
        ("gap", "a", 2, 1), ("gap", "a", 8, 8), ("rank", "a", 2, 2), ("rank", "b", 8, 1),
    )
    return Place(right, InvalidPledge, NO_PLEDGES, edges)


def known_pledge(right):
    """A pledge of a ledger that has this one alone."""
    return Place(right, InvalidOperation, NO_PLEDGES + [("size", "b", 4), ("gap", "a", 3, 2)], (right,))

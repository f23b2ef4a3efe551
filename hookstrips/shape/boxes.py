"""Boxes, the rims of the rows in them, their sequence, rests and neighbours."""

from math import comb

from hookstrips.base.numbers import check_between
from hookstrips.errors import InvalidBox, InvalidOperation, InvalidWord, TooMany
from hookstrips.shape.rows import check_row, is_row

MAX_SIDE = 40
MOST_LISTED = 5000


class Box:
    """A box that is so wide and so high; it never changes."""

    def __init__(self, wide, high):
        check_between(wide, 0, MAX_SIDE)
        check_between(high, 0, MAX_SIDE)
        self._wide = wide
        self._high = high

    @property
    def wide(self):
        """How wide the box is."""
        return self._wide

    @property
    def high(self):
        """How high the box is."""
        return self._high

    @property
    def number(self):
        """The number of the rows in the box."""
        return comb(self._wide + self._high, self._high)

    @property
    def turned_box(self):
        """The box that is as wide as this one is high."""
        return Box(self._high, self._wide)

    def __contains__(self, value):
        """Whether the value is a row in the box."""
        return is_row(value) and fits(value, self._wide, self._high)

    def __eq__(self, other):
        return isinstance(other, Box) and self._wide == other._wide and self._high == other._high

    def __str__(self):
        return f"box {self._wide} wide, {self._high} high"


def fits(row, wide, high):
    """Whether the row, of any length, has at most `high` parts and none above `wide`."""
    return len(row) <= high and (row == () or row[0] <= wide)


def check_box(box):
    """Raise InvalidBox unless the value is a box."""
    if not isinstance(box, Box):
        raise InvalidBox("not a box")


def check_in_box(box, row):
    """Raise the first error of a box and of a row that is to be in it."""
    check_box(box)
    check_row(row)
    if row not in box:
        raise InvalidOperation("the row is not in the box")


def box_rows(box):
    """A generator of the rows in the box, in their sequence."""
    check_box(box)
    if box.number > MOST_LISTED:
        raise TooMany(MOST_LISTED)
    for place in range(box.number):
        yield row_with_place(box.wide, box.high, place)


def listed_rows(wide, high, most):
    """The list of the rows in a box with sides of any length, if they are not more than `most`, by their number."""
    if comb(wide + high, high) > most:
        raise TooMany(most)
    rows = [()]
    longest = rows
    for _ in range(high):
        longest = [row + (part,) for row in longest for part in range(1, (row[-1] if row != () else wide) + 1)]
        rows = rows + longest
    return rows


def row_with_place(wide, high, place):
    """The row with an index in the sequence of a box with sides of any length."""
    parts = []
    part = 0
    while len(parts) < high:
        ahead = rims_ahead(wide - part, high - len(parts))
        if place < ahead:
            part += 1
        else:
            place -= ahead
            parts.append(part)
    return row_of_rising(parts)


def rims_ahead(wide, high):
    """How many rims of a box, at least 1 high, stand ahead of those that begin with the letter n."""
    # Those that begin with e; if the box is 0 wide this tells 0 of them.
    return comb(wide - 1 + high, high)


def row_of_rising(parts):
    """The row of a list of parts that never fall, zeros left out."""
    return tuple([part for part in reversed(parts) if part > 0])


def rising_parts(box, row):
    """The list of as many parts as the box is high, the least one first, zeros among them."""
    return [0] * (box.high - len(row)) + list(row[::-1])


def rim_of(box, row):
    """The rim of a row in the box."""
    check_in_box(box, row)
    letters = []
    reached = 0
    for part in rising_parts(box, row):
        letters.append("e" * (part - reached) + "n")
        reached = part
    return "".join(letters) + "e" * (box.wide - reached)


def row_of_rim(box, rim):
    """The row in the box with this rim."""
    if not is_rim(box, rim):
        raise InvalidWord("not the rim of a row in the box")
    parts = []
    part = 0
    for letter in rim:
        if letter == "e":
            part += 1
        else:
            parts.append(part)
    return row_of_rising(parts)


def is_rim(box, value):
    """Whether the value is the rim of a row in the box."""
    check_box(box)
    return has_letters(value, "e", box.wide, "n", box.high)


def has_letters(value, one, many, other, more):
    """Whether the value is a string of so many of the one letter and of the other letter alone."""
    if not isinstance(value, str) or len(value) != many + more:
        return False
    return value.count(one) == many and value.count(other) == more


def row_at(box, place):
    """The row with an index in the sequence of the box."""
    check_box(box)
    check_between(place, 0, box.number - 1)
    return row_with_place(box.wide, box.high, place)


def place_of(box, row):
    """The index of a row in the sequence of the box."""
    check_in_box(box, row)
    place = 0
    for at, part in enumerate(rising_parts(box, row)):
        place += rims_ahead(box.wide - part, box.high - at)
    return place


def rest_of(box, row):
    """The rest of the row in the box."""
    check_in_box(box, row)
    return tuple([box.wide - part for part in rising_parts(box, row) if part < box.wide])


def greater_rows(box, row):
    """The ascending tuple of the rows in the box with one square more."""
    check_in_box(box, row)
    found = []
    room = box.wide
    for at, part in enumerate(row):
        if part < room:
            found.append(row[:at] + (part + 1,) + row[at + 1:])
        room = part
    if len(row) < box.high and room > 0:
        found.append(row + (1,))
    return tuple(sorted(found))


def lesser_rows(box, row):
    """The ascending tuple of the rows with one square less."""
    check_in_box(box, row)
    found = []
    for at, part in enumerate(row):
        behind = row[at + 1:]
        if behind == () and part == 1:
            found.append(row[:at])
        elif behind == () or behind[0] < part:
            found.append(row[:at] + (part - 1,) + behind)
    return tuple(sorted(found))

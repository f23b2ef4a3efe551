"""Rows of parts, their squares, turned rows, hook differences and columns."""

from hookstrips.base.numbers import check_between, is_between
from hookstrips.errors import InvalidOperation, InvalidRow

MAX_PARTS = 60
MAX_PART = 200


def is_row(value):
    """Whether the value is a row with at most 60 parts, each at most 200."""
    return isinstance(value, tuple) and len(value) <= MAX_PARTS and is_falling(value, 1, MAX_PART)


def is_falling(numbers, least, most):
    """Whether these are integers from least to most, none above the one ahead of it."""
    if not all([is_between(number, least, most) for number in numbers]):
        return False
    return all([ahead >= behind for ahead, behind in zip(numbers, numbers[1:])])


def check_row(row):
    """Raise InvalidRow unless the value is a row."""
    if not is_row(row):
        raise InvalidRow("not a row with at most 60 parts, each at most 200")


def size_of(row):
    """The sum of the parts."""
    check_row(row)
    return sum(row)


def turned(row):
    """The turned row."""
    check_row(row)
    return column_lengths(row)


def column_lengths(row):
    """The turned row of a row of any length and with parts of any size."""
    lengths = []
    for number in range(len(row), 0, -1):
        # The columns that the parts behind do not reach end at this part.
        lengths.extend([number] * (row[number - 1] - len(lengths)))
    return tuple(lengths)


def parts_of(row, part):
    """How many parts of the row are equal to this part."""
    check_row(row)
    check_between(part, 1, MAX_PART)
    return row.count(part)


def has_square(row, value):
    """Whether the value is a pair (r, c) that is a square of the row."""
    check_row(row)
    return _is_pair(value, 1, MAX_PART) and _reaches(row, value[0], value[1])


def _is_pair(value, least, most):
    """Whether the value is a pair of integers from least to most."""
    if not isinstance(value, tuple) or len(value) != 2:
        return False
    return is_between(value[0], least, most) and is_between(value[1], least, most)


def _reaches(row, r, c):
    """Whether (r, c), both at least 1, is a square of the row."""
    return r <= len(row) and c <= row[r - 1]


def hook_difference(row, r, c):
    """The hook difference at the square (r, c)."""
    check_row(row)
    check_between(r, 1, MAX_PART)
    check_between(c, 1, MAX_PART)
    if not _reaches(row, r, c):
        raise InvalidOperation("not a square of the row")
    return row[r - 1] - column_lengths(row)[c - 1]


def squares_on(row, diagonal):
    """The ascending tuple of the squares of the row on the diagonal."""
    check_row(row)
    check_between(diagonal, -MAX_PART, MAX_PART)
    return tuple([square for square, _ in differences_along(row, diagonal)])


def hook_differences(row, diagonal):
    """The tuple of the hook differences on the diagonal, the squares ascending."""
    check_row(row)
    check_between(diagonal, -MAX_PART, MAX_PART)
    return tuple([difference for _, difference in differences_along(row, diagonal)])


def differences_along(row, diagonal):
    """The pairs of a square on the diagonal and its hook difference, in a row of any length."""
    lengths = column_lengths(row)
    told = []
    for r in range(max(1, 1 + diagonal), len(row) + 1):
        c = r - diagonal
        if _reaches(row, r, c):
            told.append(((r, c), row[r - 1] - lengths[c - 1]))
    return told


def ranks(row):
    """The tuple of the hook differences on the diagonal 0."""
    return hook_differences(row, 0)


def columns(row):
    """The tuple of the pairs (a, b) of the squares on the diagonal 0."""
    check_row(row)
    return columns_along(row)


def columns_along(row):
    """The columns of a row of any length and with parts of any size."""
    pairs = []
    for at, (part, length) in enumerate(zip(row, column_lengths(row)), 1):
        if part >= at:
            pairs.append((part - at, length - at))
    return tuple(pairs)


def row_of_columns(columns):
    """The row with these columns."""
    if not _are_columns(columns):
        raise InvalidRow("not at most 60 pairs of integers from 0 to 199 that fall strictly")
    return row_with_columns(columns)


def row_with_columns(pairs):
    """The row with these columns, as many and as great as they are."""
    first_parts = [pair[0] + at + 1 for at, pair in enumerate(pairs)]
    first_lengths = [pair[1] + at + 1 for at, pair in enumerate(pairs)]
    # Below the last square on the diagonal 0 there are only these first columns.
    rest = column_lengths(first_lengths)[len(pairs):]
    return tuple(first_parts) + rest


def _are_columns(value):
    """Whether the value is a tuple of at most 60 pairs that fall strictly."""
    if not isinstance(value, tuple) or len(value) > MAX_PARTS:
        return False
    if not all([_is_pair(pair, 0, MAX_PART - 1) for pair in value]):
        return False
    return all([a > c and b > d for (a, b), (c, d) in zip(value, value[1:])])


def put_together(one, other):
    """The row of all parts of both rows."""
    check_row(one)
    check_row(other)
    return tuple(sorted(one + other, reverse=True))


def is_inside(one, other):
    """Whether each square of the first row is one of the second one."""
    check_row(one)
    check_row(other)
    if len(one) > len(other):
        return False
    return all([part <= room for part, room in zip(one, other)])

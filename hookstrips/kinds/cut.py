"""Rows cut into squares: their sides, what lies beside the squares, and the rows with few sides."""

from hookstrips.base.numbers import check_between, is_between
from hookstrips.endless.series import all_rows, over_parts, series_times, rows_series, triple_series
from hookstrips.errors import InvalidOperation
from hookstrips.shape.rows import MAX_PARTS, check_row, is_falling, is_row

MIN_ORDER = 2
MOST_ORDER = 8
MOST_SIZE = 120
MOST_ROWS_SIZE = 24
MOST_SIDES = 7
MOST_SIDE = 10


def successive_squares(row):
    """The tuple of the sides of the squares into which the row is cut."""
    check_row(row)
    return _sides_of(row)


def _sides_of(row):
    """The tuple of the sides."""
    return tuple([side for side, _ in _pieces_of(row)])


def cut_row(row):
    """The tuple of the pairs of a side and of the row beside this square."""
    check_row(row)
    return tuple(_pieces_of(row))


def _pieces_of(row):
    """The list of these pairs."""
    pieces = []
    while row != ():
        side = len([part for at, part in enumerate(row) if part > at])
        pieces.append((side, tuple([part - side for part in row[:side] if part > side])))
        row = row[side:]
    return pieces


def are_pieces(value):
    """Whether the value is the tuple of the pairs of some row."""
    if not isinstance(value, tuple) or not all([_is_piece(piece) for piece in value]):
        return False
    row = _row_of_pieces(value)
    # Sides that rise, and rows that are too wide or too long, tell no row, or one that is cut otherwise.
    return is_row(row) and tuple(_pieces_of(row)) == value


def _is_piece(value):
    """Whether the value is a pair of a side and of a row."""
    if not isinstance(value, tuple) or len(value) != 2:
        return False
    return is_between(value[0], 1, MAX_PARTS) and is_row(value[1])


def _row_of_pieces(pieces):
    """The tuple of all parts that some pairs tell; it is a row if they are pieces."""
    parts = []
    for side, beside in pieces:
        parts.extend([side + part for part in beside])
        parts.extend([side] * (side - len(beside)))
    return tuple(parts)


def joined_row(pieces):
    """The row that is cut into these pieces."""
    if not are_pieces(pieces):
        raise InvalidOperation("not the pieces of a row")
    return _row_of_pieces(pieces)


def cut_rows(order, size):
    """The ascending tuple of all rows of the size with fewer sides than the order."""
    check_between(order, MIN_ORDER, MOST_ORDER)
    check_between(size, 0, MOST_ROWS_SIZE)
    return tuple([row for row in all_rows(size) if len(_sides_of(row)) < order])


def rows_with_sides(sides, size):
    """The ascending tuple of all rows of the size with just these sides."""
    check_sides(sides)
    check_between(size, 0, MOST_ROWS_SIZE)
    return tuple([row for row in all_rows(size) if _sides_of(row) == sides])


def check_sides(sides):
    """Raise InvalidOperation unless the value is a tuple of sides."""
    if not isinstance(sides, tuple) or len(sides) > MOST_SIDES:
        raise InvalidOperation("not a tuple of at most 7 sides")
    if not is_falling(sides, 1, MOST_SIDE):
        raise InvalidOperation("not integers from 1 to 10, none above the one ahead of it")


def cut_series(order, size):
    """The series to the size that counts the rows with fewer sides than the order."""
    check_between(order, MIN_ORDER, MOST_ORDER)
    check_between(size, 0, MOST_SIZE)
    # They are as many as the rows without parts that leave 0, k or k + 1 modulo 2 k + 1.
    return series_times(rows_series(size), triple_series(2 * order + 1, order, size))


def sides_series(sides, size):
    """The series to the size that counts the rows with just these sides."""
    check_sides(sides)
    check_between(size, 0, MOST_SIZE)
    return class_quotient(sides, 0, size)


def class_quotient(numbers, more, size):
    """The series that counts a class: q to the sum of all squares and of more, over the products of its falls."""
    factors = []
    for number, behind in zip(numbers, numbers[1:] + (0,)):
        factors.extend(list(range(1, number - behind + 1)))
    return over_parts(factors, sum([number * number for number in numbers]) + more, size)

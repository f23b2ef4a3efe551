"""Two recursions of the alternating sum, and the columns and rows that they take off bounded rows."""

from hookstrips.base.polys import moved, sum_with
from hookstrips.diagonal.bounds import Bounds, check_bounds, check_bounds_and_box, failing_squares
from hookstrips.diagonal.sums import added_exponent, alternating, check_alternating, taken_exponent
from hookstrips.errors import InvalidOperation, Refused, TooMany
from hookstrips.shape.boxes import Box, fits
from hookstrips.shape.rows import check_row

MAX_STEPPED = 12


def column_rule(modulus, first, alpha, beta, box):
    """The pair of the polynomials that the first recursion adds up."""
    check_alternating(modulus, first, alpha, beta, box)
    _check_rule(beta, box)
    lower = alternating(modulus, first, alpha, beta, Box(box.wide, box.high - 1))
    narrower = alternating(modulus, first, alpha + 1, beta - 1, Box(box.wide - 1, box.high))
    return lower, moved(narrower, box.high)


def row_rule(modulus, first, alpha, beta, box):
    """The pair of the polynomials that the second recursion adds up."""
    check_alternating(modulus, first, alpha, beta, box)
    _check_rule(alpha, box)
    narrower = alternating(modulus, first, alpha, beta, Box(box.wide - 1, box.high))
    lower = alternating(modulus, first, alpha - 1, beta + 1, Box(box.wide, box.high - 1))
    return narrower, moved(lower, box.wide)


def _check_rule(number, box):
    """Raise InvalidOperation unless alpha or beta and both sides of the box are at least 1."""
    if min(number, box.wide, box.high) < 1:
        raise InvalidOperation("this recursion needs both sides, and its number, from 1 on")


def by_steps(modulus, first, alpha, beta, box):
    """The polynomial of the alternating sum, by both recursions alone."""
    check_alternating(modulus, first, alpha, beta, box)
    if alpha == 0 and beta == 0:
        raise InvalidOperation("no recursion holds for alpha and beta 0")
    if max(box.wide, box.high) > MAX_STEPPED:
        raise TooMany(MAX_STEPPED)
    both = alpha + beta
    # A level has all N and M of one N + M, M falling from that of the box on; for each of these it
    # has the polynomials of beta = 0, 1, .., with alpha + beta told.
    level = []
    for wide in range(-box.high, box.wide + 1):
        level.append([_without_sides(modulus, first, both - each, each, wide) for each in range(both + 1)])
    for sides in range(1, box.wide + box.high + 1):
        level = _next_level(level, sides, box.high)
    return level[0][beta]


def _without_sides(modulus, first, alpha, beta, wide):
    """The polynomial for N + M = 0, N being `wide`: one power of q or none."""
    if wide % modulus == 0:
        return moved((1,), added_exponent(modulus, first, alpha, beta, wide // modulus))
    if (wide + first) % modulus == 0:
        return moved((-1,), taken_exponent(modulus, first, alpha, beta, (wide + first) // modulus))
    return ()


def _next_level(level, sides, highest):
    """The level of N + M = `sides`, out of the one ahead of it."""
    grown = []
    for at in range(len(level) - 1):
        high = highest - at
        grown.append(_both_recursions(level[at], level[at + 1], sides - high, high))
    return grown


def _both_recursions(narrower, lower, wide, high):
    """The polynomials of all beta for N and M, out of those for N - 1 and M and for N and M - 1."""
    polys = [sum_with(narrower[0], _times_power(lower[1], wide), 1)]
    for beta in range(1, len(lower)):
        polys.append(sum_with(lower[beta], _times_power(narrower[beta - 1], high), 1))
    return polys


def _times_power(poly, power):
    """The polynomial times a power of q, also one below 0 if no power in the product is."""
    return moved(poly, power) if power >= 0 else poly[-power:]


def has_columns(bounds, box):
    """Whether a first column can be taken off the bounded rows that fill the height of the box."""
    check_bounds_and_box(bounds, box)
    least, most = bounds.window
    return bounds.beta >= 2 and min(box.wide, box.high) >= 1 and least <= box.wide - box.high < most


def has_rows(bounds, box):
    """Whether a first part can be left out of the bounded rows that fill the width of the box."""
    check_bounds_and_box(bounds, box)
    least, most = bounds.window
    return bounds.alpha >= 2 and min(box.wide, box.high) >= 1 and least < box.wide - box.high <= most


def column_bounds(bounds):
    """The bounds of the rows whose first column has been taken off."""
    check_bounds(bounds)
    if bounds.beta < 2:
        raise InvalidOperation("beta is below 2")
    return Bounds(bounds.modulus, bounds.first, bounds.alpha + 1, bounds.beta - 1)


def row_bounds(bounds):
    """The bounds of the rows whose first part has been left out."""
    check_bounds(bounds)
    if bounds.alpha < 2:
        raise InvalidOperation("alpha is below 2")
    return Bounds(bounds.modulus, bounds.first, bounds.alpha - 1, bounds.beta + 1)


def check_columns(bounds, box):
    """Raise Refused unless columns can be taken off."""
    if not has_columns(bounds, box):
        raise Refused(("column",))


def check_rows(bounds, box):
    """Raise Refused unless first parts can be left out."""
    if not has_rows(bounds, box):
        raise Refused(("row",))


def _check_bounded(bounds, wide, high, row):
    """Raise InvalidOperation unless the row is a bounded one in a box that is so wide and so high."""
    if not fits(row, wide, high) or failing_squares(bounds, row) != []:
        raise InvalidOperation("not a row in the box that the bounds let")


def column_off(bounds, box, row):
    """The row without its first column, which is as high as the box."""
    check_bounds_and_box(bounds, box)
    check_row(row)
    check_columns(bounds, box)
    _check_bounded(bounds, box.wide, box.high, row)
    if len(row) < box.high:
        raise InvalidOperation("the row has too few parts")
    return tuple([part - 1 for part in row if part > 1])


def column_on(bounds, box, row):
    """The row with a first column, as high as the box, ahead of its own."""
    check_bounds_and_box(bounds, box)
    check_row(row)
    check_columns(bounds, box)
    _check_bounded(column_bounds(bounds), box.wide - 1, box.high, row)
    return tuple([part + 1 for part in row]) + (1,) * (box.high - len(row))


def row_off(bounds, box, row):
    """The row without its first part, which is as wide as the box."""
    check_bounds_and_box(bounds, box)
    check_row(row)
    check_rows(bounds, box)
    _check_bounded(bounds, box.wide, box.high, row)
    if row[:1] != (box.wide,):
        raise InvalidOperation("the first part is less than the width of the box")
    return row[1:]


def row_on(bounds, box, row):
    """The row with a first part, as wide as the box, ahead of its own."""
    check_bounds_and_box(bounds, box)
    check_row(row)
    check_rows(bounds, box)
    _check_bounded(row_bounds(bounds), box.wide, box.high - 1, row)
    return (box.wide,) + row


def split_by_column(bounds, box):
    """The pair that counts the bounded rows with fewer parts than the box is high, and the others."""
    check_columns(bounds, box)
    # Both smaller boxes are in the windows of their bounds, where the sums count the rows.
    return column_rule(bounds.modulus, bounds.first, bounds.alpha, bounds.beta, box)


def split_by_row(bounds, box):
    """The pair that counts the bounded rows without a part as wide as the box, and the others."""
    check_rows(bounds, box)
    # As for the columns, the sums count the rows in both smaller boxes.
    return row_rule(bounds.modulus, bounds.first, bounds.alpha, bounds.beta, box)

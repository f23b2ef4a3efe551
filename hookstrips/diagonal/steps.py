"""Two recursions of the alternating sum, and the columns and rows that they take off bounded rows."""

from hookstrips.base.polys import moved, without_end_zeros
from hookstrips.diagonal.bounds import Bounds, check_bounds, check_bounds_and_box, failing_squares
from hookstrips.diagonal.sums import added_exponent, alternating, check_alternating, taken_exponent
from hookstrips.errors import InvalidOperation, Refused, TooMany
from hookstrips.shape.boxes import Box, fits
from hookstrips.shape.rows import check_row

MAX_STEPPED = 12


def column_rule(modulus, first, alpha, beta, box):
    """The pair of the polynomials that the first recursion adds up."""
    check_alternating(modulus, first, alpha, beta, box)
    _check_rule(beta, box)
    lower = alternating(modulus, first, alpha, beta, Box(box.wide, box.high - 1))
    narrower = alternating(modulus, first, alpha + 1, beta - 1, Box(box.wide - 1, box.high))
    return lower, moved(narrower, box.high)


def row_rule(modulus, first, alpha, beta, box):
    """The pair of the polynomials that the second recursion adds up."""
    check_alternating(modulus, first, alpha, beta, box)
    _check_rule(alpha, box)
    narrower = alternating(modulus, first, alpha, beta, Box(box.wide - 1, box.high))
    lower = alternating(modulus, first, alpha - 1, beta + 1, Box(box.wide, box.high - 1))
    return narrower, moved(lower, box.wide)


def _check_rule(number, box):
    """Raise InvalidOperation unless alpha or beta and both sides of the box are at least 1."""
    if min(number, box.wide, box.high) < 1:
        raise InvalidOperation("this recursion needs both sides, and its number, from 1 on")


def by_steps(modulus, first, alpha, beta, box):
    """The polynomial of the alternating sum, by both recursions alone."""
    check_alternating(modulus, first, alpha, beta, box)
    if alpha == 0 and beta == 0:
        raise InvalidOperation("no recursion holds for alpha and beta 0")
    if max(box.wide, box.high) > MAX_STEPPED:
        raise TooMany(MAX_STEPPED)
    # Each polynomial is kept as its value at q = 2 ** bits, since integers are added and shifted at
    # once. Its coefficients, signs left off, add up to at most 2 ** (N + M), since each recursion
    # adds two polynomials; so none comes to a half of 2 ** bits.
    bits = box.wide + box.high + 2
    return _of_value(_by_lines(modulus, first, alpha + beta, beta, box, bits), bits)


def _by_lines(modulus, first, both, beta, box, bits):
    """The value of the polynomial at q = 2 ** bits, both being alpha + beta.

    A line is the list of these values for one N, one beta, and M = -N, 1 - N, .., the height of the box.
    """
    # By the first recursion N and beta become less together, until beta is 0. From there on the second
    # one is needed, too: the lines of beta 0 and 1 tell each other.
    line = []
    for wide in range(-box.high, box.wide - beta + 1):
        beside = _line(line, wide, _without_sides(modulus, first, both - 1, 1, wide, bits), bits)
        line = _line_without_beta(line, beside, wide, _without_sides(modulus, first, both, 0, wide, bits), bits)
    for wide in range(max(-box.high, box.wide - beta + 1), box.wide + 1):
        each = beta - (box.wide - wide)
        line = _line(line, wide, _without_sides(modulus, first, both - each, each, wide, bits), bits)
    return line[-1]


def _line(narrower, wide, start, bits):
    """The line of N and a beta from 1 on by the first recursion, out of that of N - 1 and beta - 1."""
    line = [start]
    for at, value in enumerate(narrower):
        line.append(line[-1] + _times_power(value, bits * (at + 1 - wide)))
    return line


def _line_without_beta(narrower, beside, wide, start, bits):
    """The line of N and beta 0 by the second recursion, out of that of N - 1 and that of N and beta 1."""
    return [start] + [value + _times_power(lower, bits * wide) for value, lower in zip(narrower, beside)]


def _without_sides(modulus, first, alpha, beta, wide, bits):
    """The value for N + M = 0, N being `wide`: that of one power of q, or 0."""
    if wide % modulus == 0:
        return 1 << bits * added_exponent(modulus, first, alpha, beta, wide // modulus)
    if (wide + first) % modulus == 0:
        return -(1 << bits * taken_exponent(modulus, first, alpha, beta, (wide + first) // modulus))
    return 0


def _times_power(value, many):
    """The value times 2 ** many, also for many below 0, where the product is an integer."""
    return value << many if many >= 0 else value >> -many


def _of_value(value, bits):
    """The polynomial with this value at q = 2 ** bits, if no coefficient, sign left off, comes to its half."""
    length = value.bit_length() // bits + 1
    digit = (1 << bits) - 1
    half = 1 << bits - 1
    # With a half put to each coefficient none is below 0.
    lifted = value + half * (((1 << bits * length) - 1) // digit)
    return without_end_zeros([((lifted >> bits * at) & digit) - half for at in range(length)])


def has_columns(bounds, box):
    """Whether a first column can be taken off the bounded rows that fill the height of the box."""
    check_bounds_and_box(bounds, box)
    least, most = bounds.window
    return bounds.beta >= 2 and min(box.wide, box.high) >= 1 and least <= box.wide - box.high < most


def has_rows(bounds, box):
    """Whether a first part can be left out of the bounded rows that fill the width of the box."""
    check_bounds_and_box(bounds, box)
    least, most = bounds.window
    return bounds.alpha >= 2 and min(box.wide, box.high) >= 1 and least < box.wide - box.high <= most


def column_bounds(bounds):
    """The bounds of the rows whose first column has been taken off."""
    check_bounds(bounds)
    if bounds.beta < 2:
        raise InvalidOperation("beta is below 2")
    return Bounds(bounds.modulus, bounds.first, bounds.alpha + 1, bounds.beta - 1)


def row_bounds(bounds):
    """The bounds of the rows whose first part has been left out."""
    check_bounds(bounds)
    if bounds.alpha < 2:
        raise InvalidOperation("alpha is below 2")
    return Bounds(bounds.modulus, bounds.first, bounds.alpha - 1, bounds.beta + 1)


def check_columns(bounds, box):
    """Raise Refused unless columns can be taken off."""
    if not has_columns(bounds, box):
        raise Refused(("column",))


def check_rows(bounds, box):
    """Raise Refused unless first parts can be left out."""
    if not has_rows(bounds, box):
        raise Refused(("row",))


def _check_bounded(bounds, wide, high, row):
    """Raise InvalidOperation unless the row is a bounded one in a box that is so wide and so high."""
    if not fits(row, wide, high) or failing_squares(bounds, row) != []:
        raise InvalidOperation("not a row in the box that the bounds let")


def column_off(bounds, box, row):
    """The row without its first column, which is as high as the box."""
    check_bounds_and_box(bounds, box)
    check_row(row)
    check_columns(bounds, box)
    _check_bounded(bounds, box.wide, box.high, row)
    if len(row) < box.high:
        raise InvalidOperation("the row has too few parts")
    return tuple([part - 1 for part in row if part > 1])


def column_on(bounds, box, row):
    """The row with a first column, as high as the box, ahead of its own."""
    check_bounds_and_box(bounds, box)
    check_row(row)
    check_columns(bounds, box)
    _check_bounded(column_bounds(bounds), box.wide - 1, box.high, row)
    return tuple([part + 1 for part in row]) + (1,) * (box.high - len(row))


def row_off(bounds, box, row):
    """The row without its first part, which is as wide as the box."""
    check_bounds_and_box(bounds, box)
    check_row(row)
    check_rows(bounds, box)
    _check_bounded(bounds, box.wide, box.high, row)
    if row[:1] != (box.wide,):
        raise InvalidOperation("the first part is less than the width of the box")
    return row[1:]


def row_on(bounds, box, row):
    """The row with a first part, as wide as the box, ahead of its own."""
    check_bounds_and_box(bounds, box)
    check_row(row)
    check_rows(bounds, box)
    _check_bounded(row_bounds(bounds), box.wide, box.high - 1, row)
    return (box.wide,) + row


def split_by_column(bounds, box):
    """The pair that counts the bounded rows with fewer parts than the box is high, and the others."""
    check_columns(bounds, box)
    # Both smaller boxes are in the windows of their bounds, where the sums count the rows.
    return column_rule(bounds.modulus, bounds.first, bounds.alpha, bounds.beta, box)


def split_by_row(bounds, box):
    """The pair that counts the bounded rows without a part as wide as the box, and the others."""
    check_rows(bounds, box)
    # As for the columns, the sums count the rows in both smaller boxes.
    return row_rule(bounds.modulus, bounds.first, bounds.alpha, bounds.beta, box)

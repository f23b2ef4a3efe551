"""Bounds on hook differences along two diagonals, and the rows that keep them."""

from hookstrips.base.numbers import check_between
from hookstrips.errors import InvalidBounds, Refused
from hookstrips.shape.boxes import check_box, listed_rows
from hookstrips.shape.gauss import counted_by_size
from hookstrips.shape.rows import check_row, differences_along, is_row

MIN_MODULUS = 3
MAX_MODULUS = 17
MAX_LISTED = 5000


class Bounds:
    """Bounds, told by the integers K, i, alpha and beta; they never change."""

    def __init__(self, modulus, first, alpha, beta):
        check_between(modulus, MIN_MODULUS, MAX_MODULUS)
        check_between(first, 1, modulus - 1)
        check_between(alpha, 1, modulus - 2)
        check_between(beta, 1, modulus - 1 - alpha)
        self._modulus = modulus
        self._first = first
        self._alpha = alpha
        self._beta = beta

    @property
    def modulus(self):
        """The modulus K."""
        return self._modulus

    @property
    def first(self):
        """The integer i."""
        return self._first

    @property
    def alpha(self):
        """The integer alpha."""
        return self._alpha

    @property
    def beta(self):
        """The integer beta."""
        return self._beta

    @property
    def low(self):
        """The least hook difference on the low diagonal."""
        return self._beta - self._first + 1

    @property
    def low_diagonal(self):
        """The diagonal on which the low bound holds."""
        return 1 - self._beta

    @property
    def high(self):
        """The greatest hook difference on the high diagonal."""
        return self._modulus - self._first - self._alpha - 1

    @property
    def high_diagonal(self):
        """The diagonal on which the high bound holds."""
        return self._alpha - 1

    @property
    def window(self):
        """The pair of the least and the greatest N - M of the boxes in the window."""
        return self._beta - self._first, self._modulus - self._alpha - self._first

    @property
    def turned_bounds(self):
        """The bounds that the turned rows keep."""
        return Bounds(self._modulus, self._modulus - self._first, self._beta, self._alpha)

    def __eq__(self, other):
        return (
            isinstance(other, Bounds) and self._modulus == other._modulus and self._first == other._first
            and self._alpha == other._alpha and self._beta == other._beta
        )

    def __str__(self):
        return f"bounds {self._modulus} {self._first} {self._alpha} {self._beta}"


def check_bounds(bounds):
    """Raise InvalidBounds unless the value is an object of bounds."""
    if not isinstance(bounds, Bounds):
        raise InvalidBounds("not bounds")


def check_bounds_and_box(bounds, box):
    """Raise the first error of bounds and of a box."""
    check_bounds(bounds)
    check_box(box)


def has_window(bounds, box):
    """Whether the box is in the window of the bounds."""
    check_bounds_and_box(bounds, box)
    least, most = bounds.window
    return least <= box.wide - box.high <= most


def check_window(bounds, box):
    """Raise Refused unless the box is in the window of the bounds."""
    if not has_window(bounds, box):
        raise Refused(("window",))


def is_bounded(bounds, value):
    """Whether the value is a row that is bounded."""
    check_bounds(bounds)
    return is_row(value) and failing_squares(bounds, value) == []


def failing_square(bounds, row):
    """The least square at which the row does not keep a bound, or None."""
    check_bounds(bounds)
    check_row(row)
    return min(failing_squares(bounds, row), default=None)


def failing_squares(bounds, row):
    """The list of the squares at which a row does not keep the low bound or the high bound."""
    on_low = differences_along(row, bounds.low_diagonal)
    on_high = differences_along(row, bounds.high_diagonal)
    too_low = [square for square, difference in on_low if difference < bounds.low]
    return too_low + [square for square, difference in on_high if difference > bounds.high]


def bounded_rows(bounds, box):
    """The ascending tuple of the bounded rows in the box."""
    check_bounds_and_box(bounds, box)
    rows = listed_rows(box.wide, box.high, MAX_LISTED)
    return tuple(sorted([row for row in rows if failing_squares(bounds, row) == []]))


def bounded_poly(bounds, box):
    """The polynomial that counts the bounded rows in the box by size."""
    return counted_by_size(bounded_rows(bounds, box))

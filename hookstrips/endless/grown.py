"""Bounded rows of any size: the series that the counts in growing boxes come to, and from where on."""

from math import isqrt

from hookstrips.base.numbers import check_between
from hookstrips.diagonal.bounds import check_bounds, check_bounds_and_box, failing_squares
from hookstrips.diagonal.sums import added_exponent, taken_exponent
from hookstrips.endless.series import all_rows, numbers_of_rows, times_triple
from hookstrips.errors import Refused
from hookstrips.shape.boxes import fits

MAX_GROWN = 1000
MAX_STAY = 20
PRODUCT = "product"


def grown_terms(bounds, size):
    """The tuple of the terms (u, sign, exponent) of the grown sum that matter to the size."""
    _check_grown(bounds, size, MAX_GROWN)
    return tuple(_terms_to(bounds, size))


def _check_grown(bounds, size, most):
    """Raise the first error of bounds and of a size of at most `most`."""
    check_bounds(bounds)
    check_between(size, 0, most)


def _terms_to(bounds, size):
    """The list of these terms, u ascending and the added one ahead."""
    modulus, first, alpha, beta = bounds.modulus, bounds.first, bounds.alpha, bounds.beta
    far = isqrt(size)
    terms = []
    # No exponent is below u ** 2.
    for u in range(-far, far + 1):
        terms.append((u, 1, added_exponent(modulus, first, alpha, beta, u)))
        terms.append((u, -1, taken_exponent(modulus, first, alpha, beta, u)))
    return [term for term in terms if term[2] <= size]


def grown_series(bounds, size):
    """The grown series of the bounds to the size."""
    _check_grown(bounds, size, MAX_GROWN)
    numbers = numbers_of_rows(size)
    total = [0] * (size + 1)
    for _, sign, exponent in _terms_to(bounds, size):
        total = total[:exponent] + [so_far + sign * number for so_far, number in zip(total[exponent:], numbers)]
    return tuple(total)


def grown_number(bounds, size):
    """The number of all bounded rows of the size."""
    _check_grown(bounds, size, MAX_GROWN)
    numbers = numbers_of_rows(size)
    return sum([sign * numbers[size - exponent] for _, sign, exponent in _terms_to(bounds, size)])


def grown_by_rows(bounds, size):
    """The grown series to the size, by listing the rows."""
    _check_grown(bounds, size, MAX_STAY)
    return tuple([len(_bounded_rows(bounds, each)) for each in range(size + 1)])


def _bounded_rows(bounds, size):
    """The list of all bounded rows of the size."""
    return [row for row in all_rows(size) if failing_squares(bounds, row) == []]


def _bounded_to(bounds, size):
    """The list of all bounded rows of each size to this one."""
    found = []
    for each in range(size + 1):
        found.extend(_bounded_rows(bounds, each))
    return found


def grown_product(bounds, size):
    """The grown series to the size as a product, for alpha and beta 1."""
    _check_grown(bounds, size, MAX_GROWN)
    if bounds.alpha != 1 or bounds.beta != 1:
        raise Refused((PRODUCT,))
    return times_triple(numbers_of_rows(size), bounds.modulus, bounds.first)


def stays_from(bounds, size):
    """The least m so that boxes of the window with both sides from m on have all bounded rows to the size."""
    _check_grown(bounds, size, MAX_STAY)
    rows = _bounded_to(bounds, size)
    wide = max([row[0] for row in rows if row != ()], default=0)
    high = max([len(row) for row in rows])
    least, most = bounds.window
    # With both sides from m on, a box of the window is at least m + least wide and m - most high; one
    # of both sides can be m itself, so no m below 0 is told.
    return max(wide - max(0, least), high - max(0, -most))


def does_stay(bounds, box, size):
    """Whether all bounded rows of each size to this one are in the box."""
    check_bounds_and_box(bounds, box)
    check_between(size, 0, MAX_STAY)
    return all([fits(row, box.wide, box.high) for row in _bounded_to(bounds, size)])

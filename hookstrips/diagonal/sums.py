"""One alternating sum of Gaussian numbers, which counts bounded rows in a box."""

from math import comb

from hookstrips.base.numbers import check_between
from hookstrips.base.polys import moved, sum_with
from hookstrips.diagonal.bounds import MAX_MODULUS, check_bounds_and_box, check_window
from hookstrips.shape.boxes import check_box
from hookstrips.shape.gauss import gaussian_numbers

MIN_ALTERNATING = 2


def sum_terms(bounds, box):
    """The tuple of the terms (sign, exponent, top, low) whose Gaussian number is not 0."""
    check_bounds_and_box(bounds, box)
    return tuple(_terms(bounds.modulus, bounds.first, bounds.alpha, bounds.beta, box))


def _terms(modulus, first, alpha, beta, box):
    """The list of the terms, for ascending u and the added one ahead."""
    terms = []
    top = box.wide + box.high
    for u in range(-(box.high // modulus), (box.wide + first) // modulus + 1):
        added_low = box.wide - modulus * u
        if 0 <= added_low <= top:
            terms.append((1, added_exponent(modulus, first, alpha, beta, u), top, added_low))
        if 0 <= added_low + first <= top:
            terms.append((-1, taken_exponent(modulus, first, alpha, beta, u), top, added_low + first))
    return terms


def added_exponent(modulus, first, alpha, beta, u):
    """The exponent of the added term of u."""
    return u * (modulus * u + first) * (alpha + beta) - modulus * beta * u


def taken_exponent(modulus, first, alpha, beta, u):
    """The exponent of the term of u that is taken away."""
    return u * (modulus * u - first) * (alpha + beta) - modulus * beta * u + beta * first


def _sum_of(terms, top):
    """The polynomial of the terms, which all have one top."""
    gaussians = gaussian_numbers(top)
    total = ()
    for sign, exponent, _, low in terms:
        total = sum_with(total, moved(gaussians[low], exponent), sign)
    return total


def sum_poly(bounds, box):
    """The sum of the bounds and of a box in their window."""
    check_window(bounds, box)
    return _sum_of(sum_terms(bounds, box), box.wide + box.high)


def sum_number(bounds, box):
    """The value of the sum at q = 1."""
    check_window(bounds, box)
    return sum([sign * comb(top, low) for sign, _, top, low in sum_terms(bounds, box)])


def alternating(modulus, first, alpha, beta, box):
    """The polynomial that the formula of the sum tells for any box, alpha and beta from 0 on."""
    check_alternating(modulus, first, alpha, beta, box)
    return _sum_of(_terms(modulus, first, alpha, beta, box), box.wide + box.high)


def check_alternating(modulus, first, alpha, beta, box):
    """Raise the first error of what the formula takes."""
    check_between(modulus, MIN_ALTERNATING, MAX_MODULUS)
    check_between(first, 1, modulus - 1)
    check_between(alpha, 0, modulus)
    check_between(beta, 0, modulus - alpha)
    check_box(box)

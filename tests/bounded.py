"""Bounded rows and sums by the words of the document: square by square, and term by term."""

import functools

from hookstrips.diagonal.bounds import Bounds
from hookstrips.shape.gauss import gaussian
from tests.samples import squares, turned_by_squares

# All bounds with a modulus to 6, and some others, as tuples.
TOLD = [
    (modulus, first, alpha, beta)
    for modulus in range(3, 7) for first in range(1, modulus)
    for alpha in range(1, modulus - 1) for beta in range(1, modulus - alpha)
] + [(7, 3, 2, 2), (8, 1, 3, 4), (9, 8, 5, 1), (12, 6, 2, 2), (17, 1, 1, 1), (17, 16, 15, 1), (17, 9, 1, 15)]
BOUNDS = [(told, Bounds(*told)) for told in TOLD]


def failing_squares(told, row):
    """All squares at which a hook difference does not keep a bound, by the words of the document."""
    modulus, first, alpha, beta = told
    other = turned_by_squares(row)
    failing = []
    for r, c in sorted(squares(row)):
        difference = row[r - 1] - other[c - 1]
        if r - c == 1 - beta and difference < beta - first + 1:
            failing.append((r, c))
        elif r - c == alpha - 1 and difference > modulus - first - alpha - 1:
            failing.append((r, c))
    return failing


def in_window(told, wide, high):
    modulus, first, alpha, beta = told
    return beta - first <= wide - high <= modulus - alpha - first


@functools.cache
def gaussian_once(top, low):
    """A Gaussian number; those of great tops are asked for again and again."""
    return gaussian(top, low)


def terms_as_told(told, wide, high):
    """The terms for u from -60 to 60 whose Gaussian number is not 0."""
    modulus, first, alpha, beta = told
    both, top, terms = alpha + beta, wide + high, []
    for u in range(-60, 61):
        one = (1, u * (modulus * u + first) * both - modulus * beta * u, top, wide - modulus * u)
        low = wide - modulus * u + first
        other = (-1, u * (modulus * u - first) * both - modulus * beta * u + beta * first, top, low)
        terms += [term for term in (one, other) if 0 <= term[3] <= top]
    return tuple(terms)


def sum_as_told(told, wide, high):
    """The polynomial of these terms."""
    numbers = [0] * 4000
    for sign, exponent, top, low in terms_as_told(told, wide, high):
        for at, number in enumerate(gaussian_once(top, low)):
            numbers[exponent + at] += sign * number
    while numbers and numbers[-1] == 0:
        numbers.pop()
    return tuple(numbers)

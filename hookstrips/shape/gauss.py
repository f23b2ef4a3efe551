"""Gaussian numbers: the polynomials that count the rows in boxes by size, and what adds up to them."""

from math import comb

from hookstrips.base.numbers import check_between
from hookstrips.base.polys import moved, multiplied, over_one, sum_with, times_one, without_end_zeros
from hookstrips.shape.boxes import listed_rows

MAX_TOP = 80
MAX_LINE = 40
MAX_LISTED = 5000
MAX_LOW = 200


def check_top_and_low(top, low, least):
    """Raise the first error of a top from `least` on and of a low."""
    check_between(top, least, MAX_TOP)
    check_between(low, -MAX_LOW, MAX_LOW)


def gaussian(top, low):
    """The Gaussian number, by the first rule."""
    check_top_and_low(top, low, 0)
    return _by_first_rule(top, low)


def _by_first_rule(top, low):
    """The Gaussian number for any low."""
    if low < 0 or low > top:
        return ()
    # Each polynomial is kept as its value at q = 2 ** bits, since integers are added and shifted at
    # once. No coefficient comes to 2 ** bits: all of them together are at most the binomial.
    bits = comb(top, low).bit_length()
    # The line has [high; high], [high + 1; high], .., [high + top - low; high].
    line = [1] * (top - low + 1)
    for high in range(1, low + 1):
        for at in range(1, len(line)):
            line[at] = line[at] + (line[at - 1] << bits * high)
    digit = (1 << bits) - 1
    return tuple([(line[-1] >> bits * at) & digit for at in range(low * (top - low) + 1)])


def gaussian_by_product(top, low):
    """The Gaussian number, by factors 1 - q ** j; it is that of the top and of top - low."""
    check_top_and_low(top, low, 0)
    if low < 0 or low > top:
        return ()
    return _by_product(top, min(low, top - low))


def _by_product(top, low):
    """The Gaussian number for low from 0 to half of the top, by products and quotients of series."""
    degree = low * (top - low)
    # It is balanced, so its coefficients to the middle tell all of them.
    half = [1] + [0] * (degree // 2)
    for step in range(1, low + 1):
        half = over_one(times_one(half, top - low + step, -1), step)
    return tuple(half + half[:degree - degree // 2][::-1])


def gaussian_numbers(top):
    """The list of the Gaussian numbers of the top for each low from 0 to the top."""
    numbers = [(1,)]
    for low in range(1, top // 2 + 1):
        step = top - low + 1
        product = sum_with(numbers[-1], moved(numbers[-1], step), -1)
        # What stands behind the degree of the quotient is 0, since this division has no rest.
        numbers.append(without_end_zeros(over_one(product, low)))
    # Those of low and of top - low are equal.
    return numbers + numbers[:top - top // 2][::-1]


def gaussian_by_rows(top, low):
    """The Gaussian number, by listing the rows in the box."""
    check_top_and_low(top, low, 0)
    if low < 0 or low > top:
        return ()
    return counted_by_size(listed_rows(top - low, low, MAX_LISTED))


def counted_by_size(rows):
    """The polynomial that counts the rows of a list, which has at least one, by size."""
    sizes = [sum(row) for row in rows]
    numbers = [0] * (max(sizes) + 1)
    for size in sizes:
        numbers[size] += 1
    return tuple(numbers)


def gaussian_line(top):
    """The tuple of the Gaussian numbers for each low from 0 to the top."""
    check_between(top, 0, MAX_LINE)
    return tuple(gaussian_numbers(top))


def first_rule(top, low):
    """The pair of the polynomials that the first rule adds up."""
    check_top_and_low(top, low, 1)
    return _by_first_rule(top - 1, low - 1), moved(_by_first_rule(top - 1, low), low)


def last_rule(top, low):
    """The pair of the polynomials that the second rule adds up."""
    check_top_and_low(top, low, 1)
    return moved(_by_first_rule(top - 1, low - 1), top - low), _by_first_rule(top - 1, low)


def split_terms(one, other, low):
    """The tuple of the terms into which [one + other; low] is split."""
    check_between(one, 0, MAX_LINE)
    check_between(other, 0, MAX_LINE)
    check_between(low, 0, MAX_TOP)
    first_line = gaussian_numbers(one)
    other_line = gaussian_numbers(other)
    terms = []
    for taken in range(low + 1):
        left = low - taken
        if left > one or taken > other:
            terms.append(())
        else:
            terms.append(moved(multiplied(first_line[left], other_line[taken]), taken * (one - left)))
    return tuple(terms)


def unlike_poly(least, many):
    """The product of 1 + q ** j for so many integers j from the least one on."""
    check_between(least, 0, MAX_LINE)
    check_between(many, 0, MAX_LINE)
    poly = (1,)
    for step in range(least, least + many):
        poly = sum_with(poly, moved(poly, step), 1)
    return poly


def unlike_terms(least, many):
    """The tuple of the shifted Gaussian numbers that add up to this product."""
    check_between(least, 0, MAX_LINE)
    check_between(many, 0, MAX_LINE)
    line = gaussian_numbers(many)
    return tuple([moved(poly, low * (low - 1) // 2 + least * low) for low, poly in enumerate(line)])


def signed_sum(top):
    """The sum of the Gaussian numbers of the top, those with an odd low taken away."""
    check_between(top, 0, MAX_LINE)
    total = ()
    for low, poly in enumerate(gaussian_numbers(top)):
        total = sum_with(total, poly, -1 if low & 1 else 1)
    return total

"""Polynomials as tuples of integers: sums, products, factors 1 - q ** n, and series."""

from hookstrips.base.numbers import MOST_INTEGER, are_integers, check_between, check_integer
from hookstrips.errors import InvalidOperation, InvalidPoly, TooMany

MAX_NUMBERS = 4000
MAX_FACTOR = 400
MAX_SERIES = 1000


def is_poly(value):
    """Whether the value is a polynomial of at most 4000 integers."""
    if not are_integers(value, MAX_NUMBERS):
        return False
    return value == () or value[-1] != 0


def check_poly(poly):
    """Raise InvalidPoly unless the value is a polynomial."""
    if not is_poly(poly):
        raise InvalidPoly("not a polynomial of at most 4000 integers")


def check_length(length):
    """Raise TooMany if a polynomial would have more than 4000 integers."""
    if length > MAX_NUMBERS:
        raise TooMany(MAX_NUMBERS)


def without_end_zeros(numbers):
    """The polynomial of a list or tuple of integers, which can have any length."""
    length = len(numbers)
    while length > 0 and numbers[length - 1] == 0:
        length -= 1
    return tuple(numbers[:length])


def poly_of(numbers):
    """The polynomial of a tuple of integers, zeros at its end being left out."""
    if not are_integers(numbers, MAX_NUMBERS):
        raise InvalidPoly("not a tuple of at most 4000 integers")
    return without_end_zeros(numbers)


def degree_of(poly):
    """The index of the last integer, -1 for ()."""
    check_poly(poly)
    return len(poly) - 1


def coefficient(poly, at):
    """The coefficient of q ** at."""
    check_poly(poly)
    check_between(at, 0, MOST_INTEGER)
    return poly[at] if at < len(poly) else 0


def added(one, other):
    """The sum of both polynomials."""
    check_poly(one)
    check_poly(other)
    return sum_with(one, other, 1)


def less(one, other):
    """The first polynomial less the second one."""
    check_poly(one)
    check_poly(other)
    return sum_with(one, other, -1)


def sum_with(one, other, sign):
    """The sum of the first polynomial and of the second one times the sign, both of any length."""
    total = list(one) + [0] * (len(other) - len(one))
    for at, number in enumerate(other):
        total[at] += sign * number
    return without_end_zeros(total)


def multiplied(one, other):
    """The product of both polynomials."""
    check_poly(one)
    check_poly(other)
    if one == () or other == ():
        return ()
    check_length(len(one) + len(other) - 1)
    total = [0] * (len(one) + len(other) - 1)
    for low, number in enumerate(one):
        for high, factor in enumerate(other):
            total[low + high] += number * factor
    return tuple(total)


def shifted(poly, many):
    """The polynomial times q ** many."""
    check_poly(poly)
    check_between(many, 0, MAX_NUMBERS)
    check_length(len(poly) + many)
    return moved(poly, many)


def moved(poly, many):
    """The polynomial of any length times q ** many."""
    return (0,) * many + poly if poly != () else ()


def scaled(poly, number):
    """The polynomial with each coefficient times the number."""
    check_poly(poly)
    check_integer(number)
    return without_end_zeros([number * each for each in poly])


def at_one(poly):
    """The value at q = 1."""
    check_poly(poly)
    return sum(poly)


def at_minus_one(poly):
    """The value at q = -1."""
    check_poly(poly)
    return sum(poly[::2]) - sum(poly[1::2])


def cut(poly, size):
    """The series of the polynomial to the size."""
    check_poly(poly)
    check_between(size, 0, MAX_SERIES)
    return poly[:size + 1] + (0,) * (size + 1 - len(poly))


def times_factor(poly, step):
    """The product with 1 - q ** step."""
    check_poly(poly)
    check_between(step, 1, MAX_FACTOR)
    return less(poly, shifted(poly, step))


def over_factor(poly, step):
    """The polynomial whose product with 1 - q ** step is the given one."""
    check_poly(poly)
    check_between(step, 1, MAX_FACTOR)
    sums = over_one(poly, step)
    length = max(0, len(poly) - step)
    if any([number != 0 for number in sums[length:]]):
        raise InvalidOperation("no polynomial has this product with 1 - q ** step")
    return tuple(sums[:length])


def over_one(numbers, step):
    """The list of as many coefficients, of any number, of the quotient by 1 - q ** step."""
    sums = list(numbers)
    for at in range(step, len(numbers)):
        sums[at] = sums[at] + sums[at - step]
    return sums


def times_one(numbers, step, sign):
    """The list of as many coefficients of the product of a list with 1 + sign q ** step."""
    return numbers[:step] + [number + sign * ahead for number, ahead in zip(numbers[step:], numbers)]


def over_factors_to(poly, many, size):
    """The series of the quotient by 1 - q, .., 1 - q ** many, to the size."""
    check_poly(poly)
    check_between(many, 0, MAX_FACTOR)
    check_between(size, 0, MAX_SERIES)
    series = cut(poly, size)
    for step in range(1, many + 1):
        series = over_one(series, step)
    return tuple(series)


def is_balanced(poly):
    """Whether the coefficients read the same backwards, zeros ahead left out."""
    check_poly(poly)
    first = 0
    while first < len(poly) and poly[first] == 0:
        first += 1
    return poly[first:] == poly[first:][::-1]


def is_peaked(poly):
    """Whether the coefficients never rise behind a place at which they fall."""
    check_poly(poly)
    fallen = False
    for ahead, behind in zip(poly, poly[1:]):
        if fallen and behind > ahead:
            return False
        if behind < ahead:
            fallen = True
    return True

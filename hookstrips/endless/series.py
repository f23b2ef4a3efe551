"""Series of rows, of rows with some parts, and threefold products."""

from math import isqrt

from hookstrips.base.numbers import are_integers, check_between, is_between, pentagonal
from hookstrips.base.polys import over_one, times_one
from hookstrips.errors import InvalidOperation, InvalidPoly, TooMany

MAX_SIZE = 400
MOST_LISTED = 20
MOST_MODULUS = 400
MOST_PART = 400


def rows_number(size):
    """The number of the rows of the size."""
    check_between(size, 0, MAX_SIZE)
    return numbers_of_rows(size)[size]


def rows_series(size):
    """The series of rows, by pentagonal numbers."""
    check_between(size, 0, MAX_SIZE)
    return tuple(numbers_of_rows(size))


def numbers_of_rows(size):
    """The list of the numbers of rows of each size to a size without a bound."""
    terms = [(exponent, sign) for exponent, sign in _pentagons(size) if exponent > 0]
    numbers = [1]
    for at in range(1, size + 1):
        numbers.append(-sum([sign * numbers[at - exponent] for exponent, sign in terms if exponent <= at]))
    return numbers


def _pentagons(size):
    """The pairs of the exponent and the sign of the product of all 1 - q ** m, for each u that can matter."""
    far = isqrt(size)
    # The pentagonal number of u is at least u ** 2.
    return [(pentagonal(u), _sign_of(u)) for u in range(-far, far + 1)]


def _sign_of(u):
    """The sign (-1) ** u."""
    return -1 if u & 1 else 1


def _sum_to(terms, size):
    """The series to the size of the sum of powers of q with signs."""
    numbers = [0] * (size + 1)
    for exponent, sign in terms:
        if exponent <= size:
            numbers[exponent] += sign
    return tuple(numbers)


def rows_by_factors(size):
    """The series of rows, by quotients by 1 - q ** m, one after the other."""
    check_between(size, 0, MAX_SIZE)
    return over_parts(list(range(1, size + 1)), 0, size)


def over_parts(parts, exponent, size):
    """The series of q ** exponent, divided by 1 - q ** m for each m of some parts."""
    numbers = list(_sum_to([(exponent, 1)], size))
    for part in parts:
        numbers = over_one(numbers, part)
    return tuple(numbers)


def rows_by_listing(size):
    """The series of rows, by listing the rows of each size."""
    check_between(size, 0, MAX_SIZE)
    if size > MOST_LISTED:
        raise TooMany(MOST_LISTED)
    return tuple([len(all_rows(each)) for each in range(size + 1)])


def all_rows(size):
    """The ascending list of all rows of the size."""
    return rows_of_parts(list(range(1, size + 1)), size)


def rows_of_parts(parts, size):
    """The ascending list of the rows of the size all of whose parts are in an ascending list or tuple."""
    if size == 0:
        return [()]
    found = []
    for at, part in enumerate(parts):
        if part <= size:
            found.extend([(part,) + row for row in rows_of_parts(parts[:at + 1], size - part)])
    return found


def pentagon_series(size):
    """The product of all 1 - q ** m to the size."""
    check_between(size, 0, MAX_SIZE)
    return _sum_to(_pentagons(size), size)


def parts_series(parts, size):
    """The series of the rows all of whose parts are among these."""
    if not _are_parts(parts):
        raise InvalidOperation("not an ascending tuple of at most 400 integers from 1 to 400")
    check_between(size, 0, MAX_SIZE)
    return over_parts(parts, 0, size)


def _are_parts(value):
    """Whether the value is an ascending tuple of at most 400 integers from 1 to 400."""
    if not are_integers(value, MOST_PART):
        return False
    if not all([is_between(part, 1, MOST_PART) for part in value]):
        return False
    return all([ahead < behind for ahead, behind in zip(value, value[1:])])


def unlike_series(size):
    """The series of the rows whose parts are all unlike."""
    check_between(size, 0, MAX_SIZE)
    numbers = [1] + [0] * size
    for part in range(1, size + 1):
        numbers = times_one(numbers, part, 1)
    return tuple(numbers)


def triple_series(modulus, first, size):
    """The threefold product to the size, by the sum."""
    _check_triple(modulus, first, size)
    far = isqrt(size)
    # No exponent is below u ** 2.
    terms = [(modulus * u * (u - 1) // 2 + first * u, _sign_of(u)) for u in range(-far, far + 1)]
    return _sum_to(terms, size)


def triple_by_factors(modulus, first, size):
    """The threefold product to the size, by its factors."""
    _check_triple(modulus, first, size)
    return times_triple([1] + [0] * size, modulus, first)


def _check_triple(modulus, first, size):
    """Raise the first error of what tells a threefold product to a size."""
    check_between(modulus, 2, MOST_MODULUS)
    check_between(first, 1, modulus - 1)
    check_between(size, 0, MAX_SIZE)


def times_triple(numbers, modulus, first):
    """The series of a list of any length, times the threefold product, factor by factor."""
    for step in range(modulus, len(numbers) + modulus, modulus):
        for factor in (step, step - first, step - modulus + first):
            numbers = times_one(numbers, factor, -1)
    return tuple(numbers)


def check_series(series):
    """Raise InvalidPoly unless the value is a series."""
    if not are_integers(series, MAX_SIZE + 1) or series == ():
        raise InvalidPoly("not a tuple of 1 to 401 integers")


def series_times(one, other):
    """The product of two series, to the lesser size of both."""
    check_series(one)
    check_series(other)
    length = min(len(one), len(other))
    return tuple([_at_product(one, other, at) for at in range(length)])


def _at_product(one, other, at):
    """The coefficient of q ** at of a product; both lists or tuples are at least as long as they are needed."""
    return sum([number * factor for number, factor in zip(one[:at + 1], other[at::-1])])


def series_over(one, other):
    """The series, to the lesser size of both, whose product with the second one is the first one."""
    check_series(one)
    check_series(other)
    if other[0] != 1:
        raise InvalidOperation("the first coefficient is not 1")
    found = []
    for at in range(min(len(one), len(other))):
        # All products but that of what is sought and the first coefficient, which is 1, are known.
        known = sum([number * factor for number, factor in zip(found, other[at:0:-1])])
        found.append(one[at] - known)
    return tuple(found)

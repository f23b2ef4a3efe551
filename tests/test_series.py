"""Promises [12.1] to [12.6]: series of rows and threefold products, held against listed rows and plain products."""

import unittest

from hookstrips.base.numbers import pentagonal
from hookstrips.endless.series import (
    parts_series, pentagon_series, rows_by_factors, rows_by_listing, rows_number, rows_series, series_over,
    series_times, triple_by_factors, triple_series, unlike_series,
)
from hookstrips.errors import InvalidOperation, InvalidPoly, TooMany
from tests.samples import LONGEST, rows_of_size

FEW = 12
PRODUCTS = [(modulus, first) for modulus in range(2, 10) for first in range(1, modulus)]


def plain_product(one, other, size):
    total = [0] * (size + 1)
    for at, number in enumerate(one[:size + 1]):
        for more, factor in enumerate(other[:size + 1 - at]):
            total[at + more] += number * factor
    return tuple(total)


def product_of_factors(steps, size, sign=-1):
    """The product of 1 + sign q ** step for some steps."""
    total = (1,) + (0,) * size
    for step in steps:
        if step <= size:
            total = plain_product(total, (1,) + (0,) * (step - 1) + (sign,), size)
    return total


def numbers_of_rows(size, parts=None):
    """How many rows of each size there are, by the greatest part that is let."""
    numbers = [1] + [0] * size
    for part in parts if parts is not None else range(1, size + 1):
        for at in range(part, size + 1):
            numbers[at] += numbers[at - part]
    return tuple(numbers)


class Rows(unittest.TestCase):
    def test_listed_rows(self):
        for size in range(21):
            told = tuple(len(rows_of_size(each)) for each in range(size + 1))
            for call in (rows_series, rows_by_factors, rows_by_listing):
                self.assertEqual(call(size), told)
            self.assertEqual(rows_number(size), told[-1])

    def test_all_ways_to_400(self):
        told = numbers_of_rows(400)
        self.assertEqual(rows_series(400), told)
        for size in (0, 1, 2, 21, 100, 399, 400):
            self.assertEqual(rows_series(size), told[:size + 1])
            self.assertEqual(rows_by_factors(size), told[:size + 1])
            self.assertEqual(rows_number(size), told[size])
        self.assertEqual([rows_number(100), rows_number(200)], [190569292, 3972999029388])

    def test_listing_to_20_alone(self):
        self.assertEqual(rows_by_listing(20)[-1], 627)
        for size in (21, 22, 400):
            with self.assertRaises(TooMany) as caught:
                rows_by_listing(size)
            self.assertEqual(caught.exception.limit, 20)

    def test_pentagonal_numbers_ahead(self):
        numbers = rows_series(120)
        for n in range(1, 121):
            total = 0
            for u in range(-20, 21):
                if u != 0 and pentagonal(u) <= n:
                    total += (-1) ** (u + 1) * numbers[n - pentagonal(u)]
            self.assertEqual(numbers[n], total)


class Pentagons(unittest.TestCase):
    def test_product(self):
        for size in (0, 1, 2, 3, 7, 40, 57):
            self.assertEqual(pentagon_series(size), product_of_factors(range(1, size + 1), size))

    def test_sum(self):
        signs = {pentagonal(u): (-1) ** abs(u) for u in range(-30, 31)}
        for size in (0, 1, 5, 12, 100, 400):
            self.assertEqual(pentagon_series(size), tuple(signs.get(at, 0) for at in range(size + 1)))

    def test_times_the_series_of_rows(self):
        for size in (0, 1, 30, 400):
            self.assertEqual(series_times(pentagon_series(size), rows_series(size)), (1,) + (0,) * size)


class SomeParts(unittest.TestCase):
    def test_listed_rows(self):
        for parts in ((), (1,), (2,), (1, 4, 6), (2, 3), (3, 5, 7, 9), (5, 400), (13,), tuple(range(1, 13))):
            told = []
            for size in range(FEW + 1):
                told.append(len([row for row in rows_of_size(size) if all(part in parts for part in row)]))
            self.assertEqual(parts_series(parts, FEW), tuple(told))

    def test_edges(self):
        self.assertEqual(parts_series((), 3), (1, 0, 0, 0))
        self.assertEqual(parts_series((), 0), (1,))
        self.assertEqual(parts_series((400,), 400), (1,) + (0,) * 399 + (1,))
        self.assertEqual(parts_series((1,), 400), (1,) * 401)
        self.assertEqual(parts_series(tuple(range(1, 401)), 400), rows_series(400))

    def test_wrong_parts(self):
        for parts in ((0,), (401,), (2, 1), (1, 1), (True,), [1], None, "1", tuple(range(1, 402)), (1, None)):
            with self.assertRaises(InvalidOperation):
                parts_series(parts, 4)

    def test_unlike_parts(self):
        for size in range(21):
            rows = [row for row in rows_of_size(size) if len(set(row)) == len(row)]
            self.assertEqual(unlike_series(size)[-1], len(rows))
        for size in (0, 1, 2, 50):
            self.assertEqual(unlike_series(size), product_of_factors(range(1, size + 1), size, 1))

    def test_unlike_parts_and_odd_parts(self):
        for size in (0, 1, 2, 3, 30, 399, 400):
            self.assertEqual(unlike_series(size), parts_series(tuple(range(1, size + 1, 2)), size))

    def test_parts_to_m_are_not_both_bounded(self):
        # With parts up to m there can be more than m parts: (1, 1) for m = 1.
        self.assertEqual(parts_series((1,), 2), (1, 1, 1))
        few = [row for row in rows_of_size(2) if len(row) <= 1 and max(row) <= 1]
        self.assertEqual(few, [])


class ThreefoldProducts(unittest.TestCase):
    def test_factors(self):
        for modulus, first in PRODUCTS:
            steps = []
            for m in range(1, 42):
                steps += [modulus * m, modulus * m - first, modulus * m - modulus + first]
            told = product_of_factors(steps, 40)
            for size in (0, 1, 13, 40):
                self.assertEqual(triple_by_factors(modulus, first, size), told[:size + 1])
                self.assertEqual(triple_series(modulus, first, size), told[:size + 1])

    def test_sum(self):
        for modulus, first in PRODUCTS + [(400, 1), (400, 399), (400, 200), (2, 1), (399, 17)]:
            told = [0] * 401
            for u in range(-40, 41):
                exponent = modulus * u * (u - 1) // 2 + first * u
                if exponent <= 400:
                    told[exponent] += (-1) ** abs(u)
            self.assertEqual(triple_series(modulus, first, 400), tuple(told))
            self.assertEqual(triple_by_factors(modulus, first, 400), tuple(told))

    def test_the_other_remainder(self):
        for modulus, first in PRODUCTS:
            for call in (triple_series, triple_by_factors):
                self.assertEqual(call(modulus, first, 50), call(modulus, modulus - first, 50))

    def test_3_and_the_pentagons(self):
        for first in (1, 2):
            self.assertEqual(triple_series(3, first, 400), pentagon_series(400))

    def test_rows_without_three_remainders(self):
        for modulus, first in PRODUCTS:
            let = [part for part in range(1, 401) if part % modulus not in (0, first, modulus - first)]
            counts = series_times(triple_series(modulus, first, 400), rows_series(400))
            if 2 * first == modulus:
                self.assertNotEqual(counts, parts_series(tuple(let), 400))
                continue
            self.assertEqual(counts, parts_series(tuple(let), 400))
            for size in range(FEW + 1):
                rows = [row for row in rows_of_size(size) if all(part in let for part in row)]
                self.assertEqual(counts[size], len(rows))

    def test_coefficients_can_be_greater(self):
        self.assertEqual(triple_series(4, 2, 2), (1, 0, -2))


class ProductsOfSeries(unittest.TestCase):
    ones = (
        (1,), (0,), (5, 0, 0), (1, -1), (1, 2, 3, 4), (0, 0, 1, 0), (1,) * 9, (1, 0, -7, LONGEST, 3, -LONGEST), (1, 1, 0),
    )

    def test_products(self):
        for one in self.ones:
            for other in self.ones:
                size = min(len(one), len(other)) - 1
                self.assertEqual(series_times(one, other), plain_product(one, other, size))

    def test_quotients(self):
        for one in self.ones:
            for other in self.ones:
                if other[0] == 1:
                    quotient = series_over(one, other)
                    length = min(len(one), len(other))
                    self.assertEqual(len(quotient), length)
                    self.assertEqual(plain_product(quotient, other, length - 1), one[:length])
                else:
                    with self.assertRaises(InvalidOperation):
                        series_over(one, other)

    def test_products_undone(self):
        for size in (0, 1, 2, 40, 400):
            rows, product = rows_series(size), triple_series(5, 1, size)
            self.assertEqual(series_over(series_times(rows, product), product), rows)
            self.assertEqual(series_over((1,) + (0,) * size, rows), pentagon_series(size))
            self.assertEqual(series_over(rows, rows), (1,) + (0,) * size)

    def test_lengths(self):
        many = (1,) * 401
        self.assertEqual(series_times(many, many), tuple(range(1, 402)))
        self.assertEqual(series_times((2,), many), (2,))
        self.assertEqual(series_times(many, (2, 0)), (2, 2))
        self.assertEqual(series_over(many, (1, 0)), (1, 1))
        self.assertEqual(series_over(many, many), (1,) + (0,) * 400)
        for wrong in ((), (1,) * 402, (True,), [1], None):
            for call in (series_times, series_over):
                for values in ((wrong, (1,)), ((1,), wrong), (wrong, (2,)), (wrong, wrong)):
                    with self.assertRaises(InvalidPoly):
                        call(*values)

    def test_what_is_made_can_have_more_than_sixty_digits(self):
        self.assertEqual(series_times((LONGEST, 1), (LONGEST, 1)), (LONGEST ** 2, 2 * LONGEST))
        with self.assertRaises(InvalidPoly):
            series_times(series_times((LONGEST, 1), (LONGEST, 1)), (1,))


if __name__ == "__main__":
    unittest.main()

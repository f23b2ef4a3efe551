"""Promises [2.1] to [2.5]: polynomials, held against their values and against listed rows."""

import itertools
import unittest

from hookstrips.base.polys import (
    added, at_minus_one, at_one, coefficient, cut, degree_of, is_balanced, is_peaked, is_poly, less, multiplied,
    over_factor, over_factors_to, poly_of, scaled, shifted, times_factor,
)
from hookstrips.errors import InvalidNumber, InvalidOperation, InvalidPoly, TooMany
from tests.samples import LONGEST, NO_INTEGERS_INSIDE, NO_TUPLES, rows_of_size, value_at

# All polynomials of at most four small coefficients.
SMALL = [numbers for many in range(5) for numbers in itertools.product(range(-2, 3), repeat=many)
         if numbers == () or numbers[-1] != 0]
SOME = SMALL[::7] + [(0, 0, 0, 0, 0, 1), (5, 0, -3, 0, 1, 1, 2), (-1,) * 9, (10 ** 50, 0, -(10 ** 50))]

# At a q that is far above all coefficients a polynomial is told by its value.
FAR = 10 ** 200


class Polynomials(unittest.TestCase):
    def test_polynomials(self):
        for value in SOME + [(), (1,), (0, 1), (LONGEST,), (-LONGEST,), (1,) * 4000, (0,) * 3999 + (1,)]:
            self.assertIs(is_poly(value), True)

    def test_no_polynomials(self):
        zeros = [(0,), (1, 0), (0, 0), (0,) * 4000, (1,) * 3999 + (0,)]
        for value in NO_TUPLES + NO_INTEGERS_INSIDE + zeros + [(1,) * 4001, [1], (1, False)]:
            with self.subTest(value=str(value)[:50]):
                self.assertIs(is_poly(value), False)

    def test_zeros_at_the_end(self):
        for poly in SOME:
            for many in (0, 1, 5):
                self.assertEqual(poly_of(poly + (0,) * many), poly)
        self.assertEqual(poly_of(()), ())
        self.assertEqual(poly_of((0,) * 4000), ())
        self.assertEqual(poly_of((0, 1) * 2000), (0, 1) * 2000)
        with self.assertRaises(InvalidPoly):
            poly_of((0,) * 4001)

    def test_degrees(self):
        self.assertEqual([degree_of(poly) for poly in ((), (3,), (0, 1), (1,) * 4000)], [-1, 0, 1, 3999])

    def test_coefficients(self):
        for poly in SOME:
            told = [coefficient(poly, at) for at in range(len(poly) + 3)]
            self.assertEqual(told, list(poly) + [0, 0, 0])
        self.assertEqual(coefficient((1, 2), LONGEST), 0)
        self.assertEqual(coefficient((), 0), 0)
        for at in (-1, -2, LONGEST + 1):
            with self.assertRaises(InvalidNumber) as caught:
                coefficient((1, 2), at)
            self.assertEqual(caught.exception.given, at)


class Sums(unittest.TestCase):
    def test_sums_and_differences_by_values(self):
        for one, other in itertools.product(SOME, SOME):
            total, rest = added(one, other), less(one, other)
            self.assertEqual(value_at(total, FAR), value_at(one, FAR) + value_at(other, FAR))
            self.assertEqual(value_at(rest, FAR), value_at(one, FAR) - value_at(other, FAR))
            self.assertTrue(is_poly(total))
            self.assertEqual(added(rest, other), one)

    def test_results_can_have_longer_integers(self):
        self.assertEqual(added((LONGEST,), (LONGEST,)), (2 * LONGEST,))
        self.assertEqual(less((-LONGEST,), (LONGEST,)), (-2 * LONGEST,))
        self.assertEqual(scaled((LONGEST, 1), LONGEST), (LONGEST * LONGEST, LONGEST))
        self.assertEqual(multiplied((LONGEST,), (LONGEST,)), (LONGEST * LONGEST,))
        with self.assertRaises(InvalidPoly):
            at_one(added((LONGEST,), (LONGEST,)))

    def test_scaled(self):
        for poly in SOME:
            for number in (-3, -1, 1, 2, LONGEST):
                self.assertEqual(scaled(poly, number), tuple(number * each for each in poly))
            self.assertEqual(scaled(poly, 0), ())

    def test_values_at_one_and_minus_one(self):
        for poly in SOME + [()]:
            self.assertEqual(at_one(poly), value_at(poly, 1))
            self.assertEqual(at_minus_one(poly), value_at(poly, -1))

    def test_the_degree_of_a_sum_can_fall(self):
        self.assertEqual(degree_of(added((1, 2), (3, -2))), 0)


class Products(unittest.TestCase):
    def test_products_by_values(self):
        for one, other in itertools.product(SOME, SOME):
            product = multiplied(one, other)
            self.assertEqual(value_at(product, FAR), value_at(one, FAR) * value_at(other, FAR))
            self.assertEqual(sum(product), sum(one) * sum(other))
            if one and other:
                self.assertEqual(len(product), len(one) + len(other) - 1)
            else:
                self.assertEqual(product, ())

    def test_products_of_4000_integers_and_beyond(self):
        self.assertEqual(multiplied((1,) * 4000, (2,)), (2,) * 4000)
        self.assertEqual(len(multiplied((1,) * 3998, (1, 0, 1))), 4000)
        self.assertEqual(multiplied((1,) * 4000, ()), ())
        self.assertEqual(multiplied((), (1,) * 4000), ())
        for one, other in (((1,) * 4000, (1, 1)), ((1, 0, 1), (1,) * 3999), ((1,) * 4000, (1,) * 4000)):
            self.too_many(multiplied, one, other)

    def too_many(self, call, *values):
        with self.assertRaises(TooMany) as caught:
            call(*values)
        self.assertEqual(caught.exception.limit, 4000)

    def test_shifted(self):
        for poly in SOME:
            for many in (0, 1, 5):
                self.assertEqual(shifted(poly, many), multiplied(poly, (0,) * many + (1,)))

    def test_shifted_to_4000_integers_and_beyond(self):
        self.assertEqual(shifted((7,), 3999), (0,) * 3999 + (7,))
        self.assertEqual(shifted((1,) * 4000, 0), (1,) * 4000)
        self.assertEqual(shifted((), 4000), ())
        self.too_many(shifted, (7,), 4000)
        self.too_many(shifted, (1,) * 4000, 1)
        with self.assertRaises(InvalidNumber):
            shifted((), 4001)

    def test_times_factor(self):
        for poly in SOME:
            for step in (1, 2, 3, 5, 400):
                factor = (1,) + (0,) * (step - 1) + (-1,)
                self.assertEqual(times_factor(poly, step), multiplied(poly, factor))

    def test_times_factor_to_4000_integers_and_beyond(self):
        self.assertEqual(len(times_factor((1,) * 3600, 400)), 4000)
        self.assertEqual(len(times_factor((1,) * 3999, 1)), 4000)
        self.assertEqual(times_factor((), 400), ())
        self.too_many(times_factor, (1,) * 3601, 400)
        self.too_many(times_factor, (1,) * 4000, 1)

    def test_products_of_peaked_ones_need_not_be_peaked(self):
        self.assertTrue(is_peaked((3, 1, 1)))
        self.assertFalse(is_peaked(multiplied((3, 1, 1), (3, 1, 1))))


class Quotients(unittest.TestCase):
    def test_there_and_back(self):
        for poly in SOME:
            for step in (1, 2, 3, 7, 399, 400):
                self.assertEqual(over_factor(times_factor(poly, step), step), poly)

    def test_a_quotient_exactly_if_the_sums_are_0(self):
        for poly in SMALL:
            for step in (1, 2, 3, 4, 5):
                if all(sum(poly[first::step]) == 0 for first in range(step)):
                    self.assertEqual(times_factor(over_factor(poly, step), step), poly)
                else:
                    with self.assertRaises(InvalidOperation):
                        over_factor(poly, step)

    def test_edges(self):
        self.assertEqual(over_factor((), 1), ())
        self.assertEqual(over_factor((), 400), ())
        self.assertEqual(over_factor((1,) + (0,) * 399 + (-1,), 400), (1,))
        self.assertEqual(over_factor((1,) + (0,) * 3998 + (-1,), 1), (1,) * 3999)
        for poly, step in (((1,), 1), ((1, -1), 400), ((1, 0, -1), 400), ((0, 1), 1)):
            with self.assertRaises(InvalidOperation):
                over_factor(poly, step)


class Series(unittest.TestCase):
    def test_cut(self):
        for poly in SOME:
            for size in (0, 1, 2, 5, 12):
                self.assertEqual(cut(poly, size), tuple((poly + (0,) * 20)[:size + 1]))
        self.assertEqual(cut((), 0), (0,))
        self.assertEqual(cut((), 1000), (0,) * 1001)
        self.assertEqual(cut((1, 2) * 2000, 1000), (1, 2) * 500 + (1,))
        for size in (-1, 1001):
            with self.assertRaises(InvalidNumber) as caught:
                cut((1,), size)
            self.assertEqual(caught.exception.given, size)

    def test_quotients_count_listed_rows(self):
        listed = [rows_of_size(size) for size in range(15)]
        for many in range(16):
            series = over_factors_to((1,), many, 14)
            least = [len([row for row in rows if row == () or row[0] <= many]) for rows in listed]
            short = [len([row for row in rows if len(row) <= many]) for rows in listed]
            self.assertEqual(list(series), least)
            self.assertEqual(list(series), short)

    def test_quotients_multiplied_back(self):
        for poly in SOME:
            for many in (0, 1, 2, 4, 9):
                for size in (0, 3, 8, 20):
                    series = over_factors_to(poly, many, size)
                    self.assertEqual(len(series), size + 1)
                    for step in range(1, many + 1):
                        series = cut(times_factor(poly_of(series), step), size)
                    self.assertEqual(series, cut(poly, size))

    def test_places_and_sizes_at_their_bounds(self):
        self.assertEqual(over_factors_to((1, 2, 3), 0, 0), (1,))
        self.assertEqual(over_factors_to((), 400, 1000), (0,) * 1001)
        self.assertEqual(over_factors_to((1,), 0, 1000), (1,) + (0,) * 1000)
        # The number of all rows of the size 400.
        self.assertEqual(over_factors_to((1,), 400, 1000)[400], 6727090051741041926)
        self.assertEqual(over_factors_to((1,), 399, 400)[400], 6727090051741041925)
        for many, size, wrong in ((-1, 3, -1), (401, 3, 401), (3, -1, -1), (3, 1001, 1001), (401, 1001, 401)):
            with self.assertRaises(InvalidNumber) as caught:
                over_factors_to((1,), many, size)
            self.assertEqual(caught.exception.given, wrong)


class Shapes(unittest.TestCase):
    def test_balanced(self):
        for poly in ((), (1,), (0, 0, 3), (1, 1), (1, 2, 1), (0, 2, 1, 2), (1, -1, 1), (0, -2, 0, -2)):
            self.assertIs(is_balanced(poly), True)
        for poly in ((1, 2), (1, 0, 2), (0, 1, 2), (1, -1), (1, 2, 2), (1, 2, 3, 1)):
            self.assertIs(is_balanced(poly), False)

    def test_products_of_balanced_ones_are_balanced(self):
        balanced = [poly for poly in SMALL if is_balanced(poly)]
        self.assertGreater(len(balanced), 50)
        for one, other in itertools.product(balanced, balanced):
            self.assertTrue(is_balanced(multiplied(one, other)))

    def test_peaked(self):
        for poly in ((), (1,), (0, 0, 1), (1, 1, 2, 2, 1, 1), (3, 2, 1), (1, 2, 3), (-1, 2, -3), (-3, -2, -2, -5)):
            self.assertIs(is_peaked(poly), True)
        for poly in ((1, 0, 1), (2, 1, 2), (3, 1, 1, 2), (1, 2, 1, 1, 2), (-1, -2, -1), (0, -1, 1)):
            self.assertIs(is_peaked(poly), False)

    def test_peaked_by_all_places(self):
        for poly in SMALL:
            falls = [at for at in range(1, len(poly)) if poly[at] < poly[at - 1]]
            rises = [at for at in range(1, len(poly)) if poly[at] > poly[at - 1]]
            self.assertIs(is_peaked(poly), not any(fall < rise for fall in falls for rise in rises))


if __name__ == "__main__":
    unittest.main()

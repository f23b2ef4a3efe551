"""Promises [13.1] to [13.6]: grown series, held against listed rows, products, and boxes of the window."""

import math
import unittest

from hookstrips.diagonal.bounds import Bounds, bounded_poly, has_window
from hookstrips.diagonal.sums import sum_poly
from hookstrips.endless.grown import (
    does_stay, grown_by_rows, grown_number, grown_product, grown_series, grown_terms, stays_from,
)
from hookstrips.endless.series import parts_series, rows_series
from hookstrips.errors import InvalidNumber, Refused
from hookstrips.shape.boxes import Box
from tests.bounded import BOUNDS, failing_squares, in_window
from tests.samples import FIVE, FOUR, SEVEN, rows_to_size

FEW = 9


def rows_of(told, size):
    """All bounded rows of a size of at most this one."""
    return [row for row in rows_to_size(size) if failing_squares(told, row) == []]


LISTED = [(told, bounds, rows_of(told, FEW)) for told, bounds in BOUNDS]


def counts_of(rows, size):
    sizes = [sum(row) for row in rows]
    return tuple(sizes.count(at) for at in range(size + 1))


def fits(row, wide, high):
    return len(row) <= high and max(row, default=0) <= wide


class Terms(unittest.TestCase):
    def test_as_told(self):
        for (modulus, first, alpha, beta), bounds in BOUNDS:
            terms, both = [], alpha + beta
            for u in range(-50, 51):
                terms.append((u, 1, u * (modulus * u + first) * both - modulus * beta * u))
                terms.append((u, -1, u * (modulus * u - first) * both - modulus * beta * u + beta * first))
            self.assertGreaterEqual(min(exponent for _, _, exponent in terms), 0)
            for size in (0, 1, 2, 11, 12, 100, 1000):
                self.assertEqual(grown_terms(bounds, size), tuple(term for term in terms if term[2] <= size))

    def test_least_size(self):
        self.assertEqual(grown_terms(FIVE, 0), ((0, 1, 0),))
        self.assertEqual(grown_terms(Bounds(3, 1, 1, 1), 1), ((0, 1, 0), (0, -1, 1)))
        self.assertEqual(grown_terms(Bounds(3, 1, 1, 1), 2), ((0, 1, 0), (0, -1, 1), (1, -1, 2)))


class Series(unittest.TestCase):
    def test_listed_rows(self):
        for told, bounds, rows in LISTED:
            counts = counts_of(rows, FEW)
            for size in range(FEW + 1):
                self.assertEqual(grown_series(bounds, size), counts[:size + 1])
                self.assertEqual(grown_by_rows(bounds, size), counts[:size + 1])
                self.assertEqual(grown_number(bounds, size), counts[size])

    def test_all_ways_to_20(self):
        for bounds in (FIVE, SEVEN, Bounds(17, 1, 1, 15), Bounds(3, 2, 1, 1)):
            self.assertEqual(grown_by_rows(bounds, 20), grown_series(bounds, 20))

    def test_numbers(self):
        for _, bounds in BOUNDS[::7]:
            series = grown_series(bounds, 1000)
            self.assertEqual(len(series), 1001)
            for size in (0, 1, 57, 999, 1000):
                self.assertEqual(grown_series(bounds, size), series[:size + 1])
                self.assertEqual(grown_number(bounds, size), series[size])

    def test_turned_bounds(self):
        for _, bounds in BOUNDS:
            self.assertEqual(grown_series(bounds.turned_bounds, 100), grown_series(bounds, 100))

    def test_wide_bounds_let_all_rows(self):
        self.assertEqual(grown_series(Bounds(17, 8, 1, 1), 7), rows_series(7))

    def test_boxes_of_the_window(self):
        for told, bounds in BOUNDS:
            for wide, high in ((9, 9), (8, 10), (11, 8)):
                if in_window(told, wide, high):
                    poly = sum_poly(bounds, Box(wide, high)) + (0,) * 9
                    self.assertEqual(poly[:9], grown_series(bounds, 8))

    def test_bounds_of_size(self):
        for call in (grown_terms, grown_series, grown_number, grown_product):
            for size in (-1, 1001, True):
                with self.assertRaises(InvalidNumber) as caught:
                    call(FIVE, size)
                self.assertIs(caught.exception.given, size)
        for call in (grown_by_rows, stays_from, lambda bounds, size: does_stay(bounds, FOUR, size)):
            for size in (-1, 21, 1000):
                with self.assertRaises(InvalidNumber) as caught:
                    call(FIVE, size)
                self.assertEqual(caught.exception.given, size)


class Products(unittest.TestCase):
    pairs = [(modulus, first) for modulus in range(3, 18) for first in range(1, modulus)]

    def test_sum_and_product(self):
        for modulus, first in self.pairs:
            bounds = Bounds(modulus, first, 1, 1)
            for size in (0, 1, modulus, 150):
                self.assertEqual(grown_product(bounds, size), grown_series(bounds, size))
        self.assertEqual(grown_product(FIVE, 1000), grown_series(FIVE, 1000))
        self.assertEqual(grown_product(Bounds(3, 2, 1, 1), 1000), (1,) + (0,) * 1000)

    def test_rows_without_three_remainders(self):
        for modulus, first in self.pairs:
            let = [part for part in range(1, 401) if part % modulus not in (0, first, modulus - first)]
            if 2 * first != modulus:
                self.assertEqual(grown_product(Bounds(modulus, first, 1, 1), 400), parts_series(tuple(let), 400))

    def test_other_bounds_are_refused(self):
        for (modulus, first, alpha, beta), bounds in BOUNDS:
            if (alpha, beta) != (1, 1):
                with self.assertRaises(Refused) as caught:
                    grown_product(bounds, 5)
                self.assertEqual(caught.exception.reason, ("product",))


class FromWhereOn(unittest.TestCase):
    def test_least_sides(self):
        for told, bounds, listed in LISTED:
            pairs = [(wide, high) for wide in range(34) for high in range(34) if in_window(told, wide, high)]
            for size in (0, 1, 2, 5, FEW):
                rows = [row for row in listed if sum(row) <= size]
                wide, high = max(max(row, default=0) for row in rows), max(len(row) for row in rows)
                lacking = [min(pair) for pair in pairs if pair[0] < wide or pair[1] < high]
                least = stays_from(bounds, size)
                # All sides of a box that lacks a row are not both from the least one on.
                self.assertEqual(least, max(lacking, default=-1) + 1)
                self.assertLessEqual(least, size)
                self.assertIs(least == 0, lacking == [])

    def test_greatest_size(self):
        self.assertEqual(stays_from(SEVEN, 20), 20)
        self.assertEqual(stays_from(Bounds(17, 16, 15, 1), 20), 20)
        # Only the row () is bounded.
        self.assertEqual(stays_from(Bounds(3, 1, 1, 1), 20), 0)
        self.assertTrue(all(stays_from(bounds, 0) == 0 for _, bounds in BOUNDS))

    def test_in_a_box(self):
        for told, bounds, listed in LISTED:
            for wide, high in ((0, 0), (4, 4), (0, 9), (9, 0), (9, 1), (3, 8), (9, 9), (40, 40)):
                for size in (0, 1, 3, 8):
                    rows = [row for row in listed if sum(row) <= size]
                    stays = all(fits(row, wide, high) for row in rows)
                    self.assertIs(does_stay(bounds, Box(wide, high), size), stays)

    def test_counts_in_a_box(self):
        for told, bounds in BOUNDS[::3]:
            for box in (Box(4, 4), Box(2, 5), Box(6, 3), Box(7, 0)):
                poly = bounded_poly(bounds, box) + (0,) * 9
                for size in range(9):
                    same = poly[:size + 1] == grown_series(bounds, size)
                    self.assertIs(does_stay(bounds, box, size), same)

    def test_the_box_need_not_be_in_the_window(self):
        self.assertIs(has_window(FIVE, Box(40, 0)), False)
        self.assertIs(does_stay(FIVE, Box(40, 0), 0), True)
        self.assertIs(does_stay(FIVE, Box(40, 0), 1), False)
        self.assertIs(does_stay(FIVE, Box(40, 1), 2), True)

    def test_from_there_on_counts_stay(self):
        for told, bounds in BOUNDS[::5]:
            side = stays_from(bounds, 12)
            for more in range(-8, 9):
                box = Box(side + max(0, more), side + max(0, -more))
                if has_window(bounds, box):
                    self.assertEqual((sum_poly(bounds, box) + (0,) * 13)[:13], grown_series(bounds, 12))


class NotTrue(unittest.TestCase):
    def test_coefficients_can_fall(self):
        series = grown_series(Bounds(4, 2, 1, 1), 8)
        self.assertEqual(series[1:3], (1, 0))

    def test_modulus_and_first_do_not_tell_the_series(self):
        self.assertNotEqual(grown_series(Bounds(7, 3, 1, 1), 10), grown_series(SEVEN, 10))


class Exponents(unittest.TestCase):
    def test_no_exponent_is_below_the_square(self):
        for told, bounds in BOUNDS:
            self.assertTrue(all(abs(u) <= math.isqrt(exponent) for u, _, exponent in grown_terms(bounds, 1000)))


if __name__ == "__main__":
    unittest.main()

"""Promises [0.16], [0.19] and [9.1] to [9.6]: the alternating sum, held against listed bounded rows."""

import itertools
import math
import unittest

from hookstrips.base.polys import added, less, shifted
from hookstrips.diagonal.bounds import Bounds, bounded_poly, has_window
from hookstrips.diagonal.sums import alternating, sum_number, sum_poly, sum_terms
from hookstrips.errors import InvalidBox, InvalidNumber, Refused
from hookstrips.shape.boxes import Box
from hookstrips.shape.gauss import gaussian
from tests.bounded import BOUNDS, failing_squares, in_window, sum_as_told, terms_as_told
from tests.samples import FIVE, FOUR, SEVEN, counted, rows_in_box

SIDES = list(itertools.product(range(5), repeat=2)) + [(6, 3), (3, 6), (5, 5)]
GREAT = [(40, 40), (40, 0), (0, 40), (40, 38), (17, 23)]
WIDER = [
    (modulus, first, alpha, beta)
    for modulus in (2, 3, 5) for first in range(1, modulus)
    for alpha in range(modulus + 1) for beta in range(modulus + 1 - alpha)
] + [(17, 16, 0, 17), (17, 1, 17, 0), (17, 8, 0, 0), (17, 3, 8, 9), (11, 5, 4, 0)]


def terms_added_up(terms):
    total = ()
    for sign, exponent, top, low in terms:
        call = added if sign == 1 else less
        total = call(total, shifted(gaussian(top, low), exponent))
    return total


class Terms(unittest.TestCase):
    def test_as_told(self):
        for told, bounds in BOUNDS:
            for wide, high in SIDES + GREAT:
                terms = sum_terms(bounds, Box(wide, high))
                self.assertEqual(terms, terms_as_told(told, wide, high))
                self.assertTrue(all(exponent >= 0 for _, exponent, _, _ in terms))

    def test_added_up(self):
        for told, bounds in BOUNDS[::3]:
            for wide, high in SIDES:
                box = Box(wide, high)
                total = terms_added_up(sum_terms(bounds, box))
                self.assertEqual(total, alternating(*told, box))
                if in_window(told, wide, high):
                    self.assertEqual(total, sum_poly(bounds, box))

    def test_boxes_outside_the_window(self):
        self.assertEqual(sum_terms(FIVE, Box(4, 0)), ((1, 0, 4, 4), (-1, 3, 4, 1)))
        self.assertEqual(sum_terms(FIVE, Box(0, 0)), ((1, 0, 0, 0),))

    def test_a_term_with_coefficients_below_0(self):
        terms = sum_terms(FIVE, FOUR)
        self.assertTrue(any(sign == -1 for sign, _, _, _ in terms))


class Sums(unittest.TestCase):
    def test_listed_rows(self):
        tried = 0
        for told, bounds in BOUNDS:
            for wide, high in SIDES:
                if in_window(told, wide, high):
                    rows = [row for row in rows_in_box(wide, high) if failing_squares(told, row) == []]
                    box = Box(wide, high)
                    self.assertEqual(sum_poly(bounds, box), counted(map(sum, rows)))
                    self.assertEqual(sum_number(bounds, box), len(rows))
                    tried += 1
        self.assertGreater(tried, 300)

    def test_boxes_of_more_rows(self):
        for told, bounds in (((5, 2, 1, 1), FIVE), ((7, 3, 2, 2), SEVEN), ((17, 9, 1, 15), Bounds(17, 9, 1, 15))):
            for wide, high in ((7, 6), (6, 6), (3, 4), (28, 29), (3, 29)):
                if in_window(told, wide, high) and math.comb(wide + high, high) <= 5000:
                    box = Box(wide, high)
                    self.assertEqual(sum_poly(bounds, box), bounded_poly(bounds, box))

    def test_great_boxes(self):
        for told, bounds in BOUNDS[::8] + BOUNDS[-3:]:
            for wide, high in GREAT:
                if in_window(told, wide, high):
                    box = Box(wide, high)
                    poly = sum_poly(bounds, box)
                    self.assertEqual(poly, sum_as_told(told, wide, high))
                    self.assertEqual(sum(poly), sum_number(bounds, box))
                    self.assertGreaterEqual(min(poly), 0)
                    self.assertEqual(sum_poly(bounds.turned_bounds, Box(high, wide)), poly)

    def test_numbers_by_binomials(self):
        for (modulus, first, alpha, beta), bounds in BOUNDS:
            least, most = bounds.window
            for more in (least, most):
                wide, high = 20 + more, 20
                told = 0
                for u in range(-60, 61):
                    low = wide - modulus * u
                    told += math.comb(wide + high, low) if low >= 0 else 0
                    told -= math.comb(wide + high, low + first) if low + first >= 0 else 0
                self.assertEqual(sum_number(bounds, Box(wide, high)), told)

    def test_both_ends_of_the_window(self):
        for _, bounds in BOUNDS:
            least, most = bounds.window
            for call in (sum_poly, sum_number):
                call(bounds, Box(20 + least, 20))
                call(bounds, Box(20 + most, 20))
                for more in (least - 1, most + 1):
                    with self.assertRaises(Refused) as caught:
                        call(bounds, Box(20 + more, 20))
                    self.assertEqual(caught.exception.reason, ("window",))

    def test_turned_over(self):
        for told, bounds in BOUNDS:
            for wide, high in SIDES:
                if in_window(told, wide, high):
                    one = sum_poly(bounds, Box(wide, high))
                    self.assertEqual(sum_poly(bounds.turned_bounds, Box(high, wide)), one)

    def test_wide_enough(self):
        found = 0
        for (modulus, first, alpha, beta), bounds in BOUNDS:
            for wide, high in SIDES:
                if first - beta >= high and modulus - alpha - first >= wide:
                    self.assertTrue(has_window(bounds, Box(wide, high)))
                    self.assertEqual(sum_poly(bounds, Box(wide, high)), gaussian(wide + high, wide))
                    found += 1
        self.assertGreater(found, 20)

    def test_boxes_without_a_side(self):
        self.assertEqual(sum_poly(FIVE, Box(0, 0)), (1,))
        self.assertEqual(sum_poly(Bounds(17, 1, 15, 1), Box(1, 0)), (1,))
        self.assertEqual(sum_poly(Bounds(17, 1, 1, 1), Box(15, 0)), (1,))
        self.assertEqual(sum_number(Bounds(17, 16, 1, 1), Box(0, 15)), 1)

    def test_a_window_whose_box_has_no_term_taken_away(self):
        terms = sum_terms(Bounds(17, 8, 1, 1), FOUR)
        self.assertEqual([sign for sign, _, _, _ in terms], [1])
        self.assertTrue(has_window(Bounds(17, 8, 1, 1), FOUR))


class Alternating(unittest.TestCase):
    def test_term_by_term(self):
        for told in WIDER:
            for wide, high in SIDES[::2] + [(12, 3), (9, 11)]:
                self.assertEqual(alternating(*told, Box(wide, high)), sum_as_told(told, wide, high))

    def test_great_boxes(self):
        for told in WIDER[::9] + WIDER[-5:]:
            for wide, high in ((40, 40), (40, 0), (0, 40)):
                self.assertEqual(alternating(*told, Box(wide, high)), sum_as_told(told, wide, high))

    def test_turned_over(self):
        for modulus, first, alpha, beta in WIDER:
            for wide, high in SIDES:
                one = alternating(modulus, first, alpha, beta, Box(wide, high))
                self.assertEqual(alternating(modulus, modulus - first, beta, alpha, Box(high, wide)), one)

    def test_in_the_window_it_is_the_sum(self):
        for told, bounds in BOUNDS:
            for wide, high in SIDES:
                if in_window(told, wide, high):
                    self.assertEqual(alternating(*told, Box(wide, high)), sum_poly(bounds, Box(wide, high)))

    def test_numbers_at_their_bounds(self):
        for told, wrong in (
            ((1, 1, 0, 0), 1), ((18, 1, 0, 0), 18), ((2, 0, 0, 0), 0), ((2, 2, 0, 0), 2), ((17, 17, 0, 0), 17),
            ((2, 1, -1, 0), -1), ((2, 1, 3, 0), 3), ((17, 1, 18, 0), 18), ((2, 1, 0, -1), -1), ((2, 1, 0, 3), 3),
            ((2, 1, 2, 1), 1), ((17, 1, 8, 10), 10), ((2, True, 0, 0), True), ((2, 1, False, 0), False),
        ):
            with self.assertRaises(InvalidNumber) as caught:
                alternating(*told, FOUR)
            self.assertIs(caught.exception.given, wrong)
        for told in ((2, 1, 0, 0), (2, 1, 2, 0), (2, 1, 0, 2), (17, 16, 17, 0), (17, 1, 0, 17), (17, 1, 8, 9)):
            alternating(*told, FOUR)
            with self.assertRaises(InvalidBox):
                alternating(*told, (4, 4))

    def test_outside_the_window_it_need_not_count(self):
        self.assertEqual(alternating(5, 2, 1, 1, Box(4, 0)), (1, 0, 0, -1, -1, -1, -1))
        self.assertNotEqual(alternating(5, 2, 1, 1, Box(4, 0)), bounded_poly(FIVE, Box(4, 0)))

    def test_coefficients_below_0_with_alpha_0(self):
        self.assertLess(min(alternating(2, 1, 0, 0, Box(1, 1))), 0)


if __name__ == "__main__":
    unittest.main()

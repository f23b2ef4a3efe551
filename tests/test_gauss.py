"""Promises [0.12] and [5.1] to [5.7]: Gaussian numbers, held against listed rows and against one another."""

import itertools
import math
import unittest

from hookstrips.base.polys import added, is_balanced, is_peaked, multiplied, shifted, times_factor
from hookstrips.errors import InvalidNumber, TooMany
from hookstrips.shape.gauss import (
    first_rule, gaussian, gaussian_by_product, gaussian_by_rows, gaussian_line, last_rule, signed_sum, split_terms,
    unlike_poly, unlike_terms,
)
from tests.samples import counted, rows_in_box, value_at

WAYS = (gaussian, gaussian_by_product, gaussian_by_rows)
PAIRS = [(top, low) for top in range(11) for low in range(-2, top + 3)]
GREAT = [(80, 40), (80, 1), (80, 79), (79, 13), (40, 20), (61, 60)]

# At a q that is far above all coefficients a polynomial is told by its value.
FAR = 10 ** 60


def added_up(polys):
    total = ()
    for poly in polys:
        total = added(total, poly)
    return total


class GaussianNumbers(unittest.TestCase):
    def test_listed_rows(self):
        for top, low in PAIRS:
            told = counted(sum(row) for row in rows_in_box(top - low, low)) if 0 <= low <= top else ()
            for call in WAYS:
                self.assertEqual(call(top, low), told)

    def test_all_ways_are_equal(self):
        for top, low in GREAT:
            self.assertEqual(gaussian(top, low), gaussian_by_product(top, low))
        for top, low in ((80, 1), (80, 79), (80, 2), (80, 0), (80, 80), (14, 7), (31, 28), (12, 6)):
            self.assertEqual(gaussian_by_rows(top, low), gaussian(top, low))

    def test_5000_rows_and_more(self):
        self.assertEqual(sum(gaussian_by_rows(32, 3)), 4960)
        # 5005 and 85320 rows.
        for top, low in ((15, 6), (15, 9), (80, 3), (80, 40)):
            with self.assertRaises(TooMany) as caught:
                gaussian_by_rows(top, low)
            self.assertEqual(caught.exception.limit, 5000)

    def test_top_and_low_at_their_bounds(self):
        for call in WAYS:
            for top in (0, 80):
                self.assertEqual(call(top, 0), (1,))
                self.assertEqual(call(top, top), (1,))
                for low in (-200, -1, top + 1, 200):
                    self.assertEqual(call(top, low), ())
        for call in WAYS + (first_rule, last_rule):
            for top, low, wrong in ((-1, 2, -1), (81, 2, 81), (3, -201, -201), (3, 201, 201), (81, 201, 81)):
                with self.assertRaises(InvalidNumber) as caught:
                    call(top, low)
                self.assertEqual(caught.exception.given, wrong)

    def test_other_half_degree_shape_and_number(self):
        for top, low in PAIRS + GREAT:
            if 0 <= low <= top:
                poly = gaussian(top, low)
                self.assertEqual(poly, gaussian(top, top - low))
                self.assertEqual(len(poly) - 1, low * (top - low))
                self.assertTrue(is_balanced(poly))
                self.assertTrue(is_peaked(poly))
                self.assertEqual(sum(poly), math.comb(top, low))

    def test_products(self):
        for top, low in PAIRS + GREAT[:2]:
            if 0 <= low <= top:
                one, other = gaussian(top, low), (1,)
                for step in range(1, low + 1):
                    one = times_factor(one, step)
                for step in range(top - low + 1, top + 1):
                    other = times_factor(other, step)
                self.assertEqual(one, other)

    def test_lines(self):
        for top in (*range(12), 40):
            self.assertEqual(gaussian_line(top), tuple(gaussian(top, low) for low in range(top + 1)))
        for top in (-1, 41, 80):
            with self.assertRaises(InvalidNumber) as caught:
                gaussian_line(top)
            self.assertEqual(caught.exception.given, top)

    def test_coefficients_need_not_rise_strictly(self):
        self.assertEqual(gaussian(4, 2), (1, 1, 2, 1, 1))


class Rules(unittest.TestCase):
    def test_both_parts(self):
        for top, low in PAIRS:
            if top == 0:
                continue
            ahead, behind = gaussian(top - 1, low - 1), gaussian(top - 1, low)
            self.assertEqual(first_rule(top, low), (ahead, shifted(behind, low) if behind else ()))
            self.assertEqual(last_rule(top, low), (shifted(ahead, top - low) if ahead else (), behind))

    def test_both_parts_add_up(self):
        for top, low in PAIRS + GREAT:
            if top > 0:
                self.assertEqual(added(*first_rule(top, low)), gaussian(top, low))
                self.assertEqual(added(*last_rule(top, low)), gaussian(top, low))

    def test_parts_count_rows(self):
        for top in range(2, 9):
            for low in range(1, top):
                rows = rows_in_box(top - low, low)
                fewer = counted(sum(row) for row in rows if len(row) < low)
                filled = counted(sum(row) for row in rows if len(row) == low)
                self.assertEqual(first_rule(top, low), (fewer, filled))
                wide = top - low
                broad = counted(sum(row) for row in rows if row and row[0] == wide)
                narrow = counted(sum(row) for row in rows if not row or row[0] < wide)
                # The second rule with low parts in the place of top - low turns the box over.
                self.assertEqual(last_rule(top, top - low), (filled, fewer))
                self.assertEqual(first_rule(top, top - low), (narrow, broad))

    def test_edges(self):
        for call in (first_rule, last_rule):
            self.assertEqual(call(1, -200), ((), ()))
            self.assertEqual(call(80, 200), ((), ()))
            with self.assertRaises(InvalidNumber) as caught:
                call(0, 0)
            self.assertEqual(caught.exception.given, 0)
        self.assertEqual([first_rule(1, 0), first_rule(1, 1)], [((), (1,)), ((1,), ())])
        self.assertEqual([last_rule(1, 0), last_rule(1, 1)], [((), (1,)), ((1,), ())])


class Splits(unittest.TestCase):
    def test_terms(self):
        for one, other, low in itertools.product(range(6), range(6), range(13)):
            terms = split_terms(one, other, low)
            self.assertEqual(len(terms), low + 1)
            for j, term in enumerate(terms):
                product = multiplied(gaussian(one, low - j), gaussian(other, j))
                self.assertEqual(term, shifted(product, j * (one - low + j)) if product else ())
            self.assertEqual(added_up(terms), gaussian(one + other, low))

    def test_great_ones(self):
        for one, other, low in ((40, 40, 5), (40, 3, 21), (0, 40, 17), (40, 0, 17), (9, 40, 40)):
            self.assertEqual(added_up(split_terms(one, other, low)), gaussian(one + other, low))
        self.assertEqual(split_terms(40, 40, 80), ((),) * 40 + ((1,),) + ((),) * 40)
        self.assertEqual(split_terms(40, 40, 40)[40], (0,) * 1600 + (1,))
        self.assertEqual(split_terms(0, 0, 0), ((1,),))
        self.assertEqual(split_terms(0, 0, 2), ((), (), ()))

    def test_bounds(self):
        for values, wrong in (
            ((41, 1, 1), 41), ((1, 41, 1), 41), ((1, 1, 81), 81), ((-1, -2, 1), -1), ((1, 1, -1), -1),
            ((1, -2, -1), -2),
        ):
            with self.assertRaises(InvalidNumber) as caught:
                split_terms(*values)
            self.assertEqual(caught.exception.given, wrong)

    def test_terms_are_not_balanced_around_one_middle(self):
        least = [next(at for at, number in enumerate(term) if number) for term in split_terms(2, 2, 2)]
        most = [len(term) - 1 for term in split_terms(2, 2, 2)]
        self.assertEqual([low + high for low, high in zip(least, most)], [0, 4, 8])


class UnlikeParts(unittest.TestCase):
    def test_products(self):
        for least, many in itertools.product(range(6), range(6)):
            value = 1
            for step in range(least, least + many):
                value = value * (1 + FAR ** step)
            self.assertEqual(value_at(unlike_poly(least, many), FAR), value)

    def test_listed_rows(self):
        for least, many in itertools.product(range(1, 6), range(7)):
            parts = range(least, least + many)
            lots = [lot for taken in range(many + 1) for lot in itertools.combinations(parts, taken)]
            self.assertEqual(unlike_poly(least, many), counted(sum(lot) for lot in lots))

    def test_terms_add_up(self):
        for least, many in [*itertools.product(range(6), range(8)), (40, 40), (0, 40), (40, 0), (1, 40)]:
            terms = unlike_terms(least, many)
            self.assertEqual(len(terms), many + 1)
            for k, term in enumerate(terms):
                self.assertEqual(term, shifted(gaussian(many, k), k * (k - 1) // 2 + least * k))
            self.assertEqual(added_up(terms), unlike_poly(least, many))

    def test_bounds(self):
        for call in (unlike_poly, unlike_terms):
            for values, wrong in (((41, 1), 41), ((1, 41), 41), ((-1, -2), -1), ((1, -1), -1)):
                with self.assertRaises(InvalidNumber) as caught:
                    call(*values)
                self.assertEqual(caught.exception.given, wrong)


class Signs(unittest.TestCase):
    def test_sums(self):
        for top in range(41):
            told = () if top % 2 else (1,)
            for step in range(1, top, 2):
                told = times_factor(told, step) if told else ()
            self.assertEqual(signed_sum(top), told)
        total = ()
        for k in range(11):
            total = added(total, tuple((-1) ** k * number for number in gaussian(10, k)))
        self.assertEqual(signed_sum(10), total)

    def test_bounds(self):
        for top in (-1, 41):
            with self.assertRaises(InvalidNumber) as caught:
                signed_sum(top)
            self.assertEqual(caught.exception.given, top)


if __name__ == "__main__":
    unittest.main()

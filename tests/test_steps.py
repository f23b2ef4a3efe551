"""Promises [10.1] to [10.6]: two recursions, and the columns and rows that bounded rows lose one to one."""

import itertools
import unittest

from hookstrips.base.polys import added
from hookstrips.diagonal.bounds import Bounds, has_window
from hookstrips.diagonal.steps import (
    by_steps, column_bounds, column_off, column_on, column_rule, has_columns, has_rows, row_bounds, row_off, row_on,
    row_rule, split_by_column, split_by_row,
)
from hookstrips.diagonal.sums import alternating, sum_poly
from hookstrips.errors import InvalidOperation, Refused, TooMany
from hookstrips.shape.boxes import Box
from tests.bounded import BOUNDS, failing_squares, sum_as_told
from tests.samples import FOUR, SEVEN, counted, rows_in_box, turned_by_squares

SIDES = list(itertools.product(range(6), repeat=2))
NUMBERS = [
    (modulus, first, alpha, beta)
    for modulus in (2, 3, 5) for first in range(1, modulus)
    for alpha in range(modulus + 1) for beta in range(modulus + 1 - alpha)
] + [(17, 16, 0, 17), (17, 1, 17, 0), (17, 3, 8, 9), (11, 5, 4, 0), (17, 8, 1, 1)]


def told_columns(told, wide, high):
    modulus, first, alpha, beta = told
    return beta >= 2 and wide >= 1 and high >= 1 and beta - first <= wide - high <= modulus - alpha - first - 1


def told_rows(told, wide, high):
    modulus, first, alpha, beta = told
    return alpha >= 2 and wide >= 1 and high >= 1 and beta - first + 1 <= wide - high <= modulus - alpha - first


def listed(told, wide, high):
    """The bounded rows in a box."""
    return [row for row in rows_in_box(wide, high) if failing_squares(told, row) == []]


def pushed(poly, many):
    return (0,) * many + poly if poly else ()


class Recursions(unittest.TestCase):
    def test_both_rules(self):
        for told in NUMBERS:
            modulus, first, alpha, beta = told
            for wide, high in SIDES:
                box = Box(wide, high)
                if min(wide, high, beta) >= 1:
                    lower = sum_as_told(told, wide, high - 1)
                    narrower = sum_as_told((modulus, first, alpha + 1, beta - 1), wide - 1, high)
                    self.assertEqual(column_rule(*told, box), (lower, pushed(narrower, high)))
                    self.assertEqual(added(*column_rule(*told, box)), alternating(*told, box))
                if min(wide, high, alpha) >= 1:
                    narrower = sum_as_told(told, wide - 1, high)
                    lower = sum_as_told((modulus, first, alpha - 1, beta + 1), wide, high - 1)
                    self.assertEqual(row_rule(*told, box), (narrower, pushed(lower, wide)))
                    self.assertEqual(added(*row_rule(*told, box)), alternating(*told, box))

    def test_great_boxes(self):
        for told in NUMBERS[::9]:
            for box in (Box(40, 40), Box(1, 40), Box(40, 1)):
                if told[3]:
                    self.assertEqual(added(*column_rule(*told, box)), alternating(*told, box))
                if told[2]:
                    self.assertEqual(added(*row_rule(*told, box)), alternating(*told, box))

    def test_sides_and_numbers_below_1(self):
        for box in (Box(0, 0), Box(0, 3), Box(3, 0), Box(0, 40), Box(40, 0)):
            for call in (column_rule, row_rule):
                with self.assertRaises(InvalidOperation):
                    call(5, 2, 1, 1, box)
        with self.assertRaises(InvalidOperation):
            column_rule(5, 2, 3, 0, FOUR)
        with self.assertRaises(InvalidOperation):
            row_rule(5, 2, 0, 3, FOUR)
        self.assertEqual(len(column_rule(5, 2, 0, 3, FOUR)), 2)
        self.assertEqual(len(row_rule(5, 2, 3, 0, FOUR)), 2)

    def test_coefficients_can_be_below_0(self):
        self.assertLess(min(alternating(5, 2, 1, 1, Box(0, 3))), 0)


class BySteps(unittest.TestCase):
    def test_against_the_sum(self):
        for told in NUMBERS:
            if told[2] + told[3] == 0:
                continue
            for wide, high in SIDES[::2] + [(12, 2), (2, 12)]:
                self.assertEqual(by_steps(*told, Box(wide, high)), alternating(*told, Box(wide, high)))

    def test_12_and_13(self):
        for told in NUMBERS[::7] + NUMBERS[-5:]:
            if told[2] + told[3] == 0:
                continue
            for box in (Box(12, 12), Box(0, 12), Box(12, 0), Box(0, 0), Box(11, 12)):
                self.assertEqual(by_steps(*told, box), alternating(*told, box))
            for box in (Box(13, 12), Box(12, 13), Box(0, 13), Box(13, 0), Box(40, 40)):
                with self.assertRaises(TooMany) as caught:
                    by_steps(*told, box)
                self.assertEqual(caught.exception.limit, 12)

    def test_each_beta_of_one_sum(self):
        boxes = (Box(12, 12), Box(12, 5), Box(4, 12), Box(1, 9), Box(10, 0))
        for modulus, first in ((2, 1), (3, 1), (4, 3), (9, 4), (17, 1), (17, 16)):
            for both in (1, 2, modulus // 2 + 1, modulus):
                for beta in range(both + 1):
                    for box in boxes:
                        told = modulus, first, both - beta, beta
                        self.assertEqual(by_steps(*told, box), alternating(*told, box))

    def test_boxes_that_are_0_wide_or_high(self):
        # Here the recursions go over N or M below 0, and so over powers of q below 0.
        for wide in range(13):
            self.assertEqual(by_steps(17, 8, 9, 8, Box(wide, 0)), sum_as_told((17, 8, 9, 8), wide, 0))
            self.assertEqual(by_steps(17, 8, 9, 8, Box(0, wide)), sum_as_told((17, 8, 9, 8), 0, wide))

    def test_both_numbers_0(self):
        for box in (FOUR, Box(0, 0), Box(13, 13), Box(12, 12)):
            with self.assertRaises(InvalidOperation):
                by_steps(5, 2, 0, 0, box)

    def test_without_a_side(self):
        for told in NUMBERS:
            if told[2] + told[3]:
                self.assertEqual(by_steps(*told, Box(0, 0)), (1,))


class Whether(unittest.TestCase):
    def test_as_told(self):
        for told, bounds in BOUNDS:
            for wide, high in SIDES:
                box = Box(wide, high)
                self.assertIs(has_columns(bounds, box), told_columns(told, wide, high))
                self.assertIs(has_rows(bounds, box), told_rows(told, wide, high))
                turned = has_rows(bounds.turned_bounds, Box(high, wide))
                self.assertIs(has_columns(bounds, box), turned)

    def test_both_ends(self):
        for (modulus, first, alpha, beta), bounds in BOUNDS:
            least, most = beta - first, modulus - alpha - first
            for more in range(least - 2, most + 3):
                box = Box(20 + more, 20)
                self.assertIs(has_columns(bounds, box), beta >= 2 and least <= more <= most - 1)
                self.assertIs(has_rows(bounds, box), alpha >= 2 and least + 1 <= more <= most)

    def test_the_smaller_boxes_are_in_the_windows(self):
        for told, bounds in BOUNDS:
            for wide, high in SIDES:
                box = Box(wide, high)
                if has_columns(bounds, box):
                    self.assertTrue(has_window(column_bounds(bounds), Box(wide - 1, high)))
                    self.assertTrue(has_window(bounds, Box(wide, high - 1)))
                if has_rows(bounds, box):
                    self.assertTrue(has_window(row_bounds(bounds), Box(wide, high - 1)))
                    self.assertTrue(has_window(bounds, Box(wide - 1, high)))

    def test_column_bounds_and_row_bounds(self):
        for (modulus, first, alpha, beta), bounds in BOUNDS:
            if beta >= 2:
                self.assertTrue(column_bounds(bounds) == Bounds(modulus, first, alpha + 1, beta - 1))
                self.assertTrue(row_bounds(column_bounds(bounds)) == bounds)
            else:
                with self.assertRaises(InvalidOperation):
                    column_bounds(bounds)
            if alpha >= 2:
                self.assertTrue(row_bounds(bounds) == Bounds(modulus, first, alpha - 1, beta + 1))
            else:
                with self.assertRaises(InvalidOperation):
                    row_bounds(bounds)


class ColumnsAndRows(unittest.TestCase):
    def test_columns_one_to_one(self):
        for told, bounds in BOUNDS:
            modulus, first, alpha, beta = told
            for wide, high in SIDES:
                if not told_columns(told, wide, high):
                    continue
                box = Box(wide, high)
                rows = listed(told, wide, high)
                less = listed((modulus, first, alpha + 1, beta - 1), wide - 1, high)
                for row in rows_in_box(wide, high):
                    if row in rows and len(row) == high:
                        other = column_off(bounds, box, row)
                        self.assertEqual(other, tuple(part - 1 for part in row if part > 1))
                        self.assertIn(other, less)
                        self.assertEqual(column_on(bounds, box, other), row)
                    else:
                        self.refused(column_off, bounds, box, row)
                for row in rows_in_box(wide, high):
                    if row in less:
                        full = column_on(bounds, box, row)
                        self.assertEqual((len(full), sum(full)), (high, sum(row) + high))
                        self.assertEqual(column_off(bounds, box, full), row)
                    else:
                        self.refused(column_on, bounds, box, row)
                fewer = [row for row in rows if len(row) < high]
                self.assertEqual(sorted(fewer), sorted(listed(told, wide, high - 1)))
                counts = counted(map(sum, fewer)), counted(sum(row) + high for row in less)
                self.assertEqual(split_by_column(bounds, box), counts)

    def test_rows_one_to_one(self):
        for told, bounds in BOUNDS:
            modulus, first, alpha, beta = told
            for wide, high in SIDES:
                if not told_rows(told, wide, high):
                    continue
                box = Box(wide, high)
                rows = listed(told, wide, high)
                less = listed((modulus, first, alpha - 1, beta + 1), wide, high - 1)
                for row in rows_in_box(wide, high):
                    if row in rows and row[:1] == (wide,):
                        self.assertEqual(row_off(bounds, box, row), row[1:])
                        self.assertIn(row[1:], less)
                    else:
                        self.refused(row_off, bounds, box, row)
                    if row in less:
                        self.assertEqual(row_on(bounds, box, row), (wide,) + row)
                        self.assertIn((wide,) + row, rows)
                    else:
                        self.refused(row_on, bounds, box, row)
                without = [row for row in rows if row[:1] != (wide,)]
                self.assertEqual(sorted(without), sorted(listed(told, wide - 1, high)))
                counts = counted(map(sum, without)), counted(sum(row) + wide for row in less)
                self.assertEqual(split_by_row(bounds, box), counts)

    def refused(self, call, bounds, box, row):
        with self.assertRaises(InvalidOperation):
            call(bounds, box, row)

    def test_rows_that_are_too_wide_or_too_long(self):
        for call in (column_off, column_on, row_off, row_on):
            for row in ((5, 1, 1, 1), (5,), (1,) * 5, (3, 2, 1, 1, 1), (200,) * 60):
                self.refused(call, SEVEN, FOUR, row)
        # In the box, but not in the smaller one.
        self.refused(column_on, SEVEN, FOUR, (4, 2, 1))
        self.refused(row_on, SEVEN, FOUR, (2, 1, 1, 1))

    def test_turned_over(self):
        for row in rows_in_box(4, 4):
            if len(row) == 4 and failing_squares((7, 3, 2, 2), row) == []:
                other = row_off(SEVEN.turned_bounds, FOUR, turned_by_squares(row))
                self.assertEqual(turned_by_squares(other), column_off(SEVEN, FOUR, row))

    def test_boxes_that_let_nothing_be_taken_off(self):
        for told, bounds in BOUNDS:
            for wide, high in SIDES + [(40, 40), (40, 0)]:
                box = Box(wide, high)
                if not told_columns(told, wide, high):
                    for call, values in ((column_off, ((1,),)), (column_on, ((),)), (split_by_column, ())):
                        with self.assertRaises(Refused) as caught:
                            call(bounds, box, *values)
                        self.assertEqual(caught.exception.reason, ("column",))
                if not told_rows(told, wide, high):
                    for call, values in ((row_off, ((1,),)), (row_on, ((),)), (split_by_row, ())):
                        with self.assertRaises(Refused) as caught:
                            call(bounds, box, *values)
                        self.assertEqual(caught.exception.reason, ("row",))

    def test_great_boxes(self):
        for told, bounds in BOUNDS[::3]:
            for wide, high in ((40, 40), (39, 40), (40, 38)):
                box = Box(wide, high)
                if told_columns(told, wide, high):
                    self.assertEqual(added(*split_by_column(bounds, box)), sum_poly(bounds, box))
                if told_rows(told, wide, high):
                    self.assertEqual(added(*split_by_row(bounds, box)), sum_poly(bounds, box))

    def test_at_the_end_of_the_window_columns_are_not_taken_off_one_to_one(self):
        failing = 0
        for told, bounds in BOUNDS:
            modulus, first, alpha, beta = told
            wide, high = 3 + modulus - alpha - first, 3
            if beta >= 2 and 0 < wide < 7:
                filled = [row for row in listed(told, wide, high) if len(row) == high]
                less = listed((modulus, first, alpha + 1, beta - 1), wide - 1, high)
                failing += len(filled) != len(less)
                self.assertFalse(has_columns(bounds, Box(wide, high)))
        self.assertGreater(failing, 0)


if __name__ == "__main__":
    unittest.main()

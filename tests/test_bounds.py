"""Promises [0.15] and [8.1] to [8.6]: bounds, held against hook differences square by square."""

import itertools
import unittest

from hookstrips.diagonal.bounds import (
    Bounds, bounded_poly, bounded_rows, failing_square, has_window, is_bounded,
)
from hookstrips.errors import InvalidNumber, TooMany
from hookstrips.shape.boxes import Box
from hookstrips.shape.rows import ranks
from tests.bounded import BOUNDS, failing_squares, in_window
from tests.samples import FIVE, NO_OBJECTS, SEVEN, counted, rows_in_box, rows_to_size, turned_by_squares

SMALL = rows_to_size(8)
SOME = [(4, 4, 4, 3, 1), (9, 1, 1, 1), (5, 5, 5, 5, 5), (2,) * 7, (200,) * 60, (60, 59, 3), (1,) * 60, (200,)]
SIDES = list(itertools.product(range(5), repeat=2)) + [(6, 3), (3, 6)]


class TheBounds(unittest.TestCase):
    def test_properties(self):
        for told, bounds in BOUNDS:
            modulus, first, alpha, beta = told
            self.assertEqual((bounds.modulus, bounds.first, bounds.alpha, bounds.beta), told)
            self.assertEqual((bounds.low, bounds.low_diagonal), (beta - first + 1, 1 - beta))
            self.assertEqual((bounds.high, bounds.high_diagonal), (modulus - first - alpha - 1, alpha - 1))
            self.assertEqual(bounds.window, (beta - first, modulus - alpha - first))
            self.assertEqual(str(bounds), " ".join(["bounds", *map(str, told)]))

    def test_turned_bounds(self):
        for (modulus, first, alpha, beta), bounds in BOUNDS:
            other = bounds.turned_bounds
            self.assertIs(type(other), Bounds)
            turned = (other.modulus, other.first, other.alpha, other.beta)
            self.assertEqual(turned, (modulus, modulus - first, beta, alpha))
            self.assertTrue(other.turned_bounds == bounds)

    def test_numbers_at_their_bounds(self):
        for told in ((3, 1, 1, 1), (3, 2, 1, 1), (17, 1, 1, 1), (17, 16, 15, 1), (17, 16, 1, 15), (5, 4, 2, 2)):
            Bounds(*told)
        for told, wrong in (
            ((2, 1, 1, 1), 2), ((18, 1, 1, 1), 18), ((3, 0, 1, 1), 0), ((3, 3, 1, 1), 3), ((17, 17, 1, 1), 17),
            ((3, 1, 0, 1), 0), ((3, 1, 2, 1), 2), ((17, 1, 16, 1), 16), ((3, 1, 1, 0), 0), ((3, 1, 1, 2), 2),
            ((17, 1, 1, 16), 16), ((17, 1, 8, 9), 9), ((5, 2, 2, 3), 3), ((3, -1, 1, 1), -1), ((5, 5, 4, 4), 5),
            ((True, 1, 1, 1), True), ((3, True, 1, 1), True), ((3, 1, True, 1), True), ((3, 1, 1, True), True),
        ):
            with self.assertRaises(InvalidNumber) as caught:
                Bounds(*told)
            self.assertIs(caught.exception.given, wrong)

    def test_equal_bounds(self):
        for (one, bounds), (other, further) in itertools.product(BOUNDS, BOUNDS):
            self.assertIs(bounds == further, one == other)
            self.assertIs(bounds != further, one != other)
            self.assertTrue(bounds == Bounds(*one))
        for value in NO_OBJECTS:
            if not isinstance(value, Bounds):
                self.assertIs(SEVEN == value, False)
                self.assertIs(SEVEN != value, True)

    def test_bounds_never_change(self):
        bounds = Bounds(7, 3, 2, 2)
        for name in (
            "modulus", "first", "alpha", "beta", "low", "low_diagonal", "high", "high_diagonal", "window",
            "turned_bounds",
        ):
            with self.assertRaises(AttributeError):
                setattr(bounds, name, 2)
        self.assertTrue(bounds == SEVEN)
        with self.assertRaises(TypeError):
            iter(bounds)

    def test_windows(self):
        for told, bounds in BOUNDS:
            for wide, high in SIDES:
                self.assertIs(has_window(bounds, Box(wide, high)), in_window(told, wide, high))
                turned = has_window(bounds.turned_bounds, Box(high, wide))
                self.assertIs(turned, in_window(told, wide, high))

    def test_windows_at_both_ends(self):
        for told, bounds in BOUNDS:
            least, most = bounds.window
            for high in range(20, 23):
                ends = [has_window(bounds, Box(high + more, high)) for more in (least - 1, least, most, most + 1)]
                self.assertEqual(ends, [False, True, True, False])


class BoundedRows(unittest.TestCase):
    def test_square_by_square(self):
        for told, bounds in BOUNDS:
            for row in SMALL:
                failing = failing_squares(told, row)
                self.assertIs(is_bounded(bounds, row), failing == [])
                self.assertEqual(failing_square(bounds, row), min(failing, default=None))

    def test_greater_rows(self):
        for told, bounds in BOUNDS[::7] + BOUNDS[-7:]:
            for row in SOME:
                self.assertEqual(failing_square(bounds, row), min(failing_squares(told, row), default=None))

    def test_values_that_are_no_rows(self):
        for value in ((1, 2), (0,), (201,), (1,) * 61, [1], None, True, (True,), "1", FIVE, (1, None)):
            for _, bounds in BOUNDS[::9]:
                self.assertIs(is_bounded(bounds, value), False)

    def test_turned_over(self):
        for told, bounds in BOUNDS:
            for row in SMALL[::2]:
                self.assertIs(is_bounded(bounds, row), is_bounded(bounds.turned_bounds, turned_by_squares(row)))

    def test_wider_bounds(self):
        for (modulus, first, alpha, beta), bounds in BOUNDS:
            if modulus < 17:
                for row in SMALL:
                    if is_bounded(bounds, row):
                        self.assertTrue(is_bounded(Bounds(modulus + 1, first, alpha, beta), row))
                        self.assertTrue(is_bounded(Bounds(modulus + 1, first + 1, alpha, beta), row))

    def test_wide_enough(self):
        found = 0
        for (modulus, first, alpha, beta), bounds in BOUNDS:
            for wide, high in SIDES:
                if first - beta >= high and modulus - alpha - first >= wide:
                    rows = rows_in_box(wide, high)
                    self.assertEqual(bounded_rows(bounds, Box(wide, high)), tuple(sorted(rows)))
                    found += len(rows) > 5
        self.assertGreater(found, 5)

    def test_the_empty_row_and_both_diagonals_0(self):
        for (modulus, first, alpha, beta), bounds in BOUNDS:
            self.assertIs(is_bounded(bounds, ()), True)
            self.assertIsNone(failing_square(bounds, ()))
            if alpha == beta == 1:
                self.assertEqual((bounds.low_diagonal, bounds.high_diagonal), (0, 0))
                for row in SMALL:
                    kept = all(2 - first <= rank <= modulus - first - 2 for rank in ranks(row))
                    self.assertIs(is_bounded(bounds, row), kept)


class RowsInBoxes(unittest.TestCase):
    def test_listed(self):
        for told, bounds in BOUNDS[::2]:
            for wide, high in SIDES:
                rows = [row for row in rows_in_box(wide, high) if failing_squares(told, row) == []]
                box = Box(wide, high)
                self.assertEqual(bounded_rows(bounds, box), tuple(sorted(rows)))
                self.assertEqual(bounded_poly(bounds, box), counted(map(sum, rows)))

    def test_5000_rows_and_more(self):
        self.assertEqual(len(bounded_rows(Bounds(17, 8, 1, 1), Box(3, 4))), 35)
        rows = bounded_rows(FIVE, Box(3, 29))
        self.assertEqual(rows, tuple(sorted(row for row in rows_in_box(3, 29) if is_bounded(FIVE, row))))
        # 5005 rows, bounded or not.
        for wide, high in ((9, 6), (6, 9), (40, 40)):
            for call in (bounded_rows, bounded_poly):
                with self.assertRaises(TooMany) as caught:
                    call(FIVE, Box(wide, high))
                self.assertEqual(caught.exception.limit, 5000)

    def test_boxes_without_a_side(self):
        for _, bounds in BOUNDS:
            for box in (Box(0, 0), Box(40, 0), Box(0, 40)):
                self.assertEqual((bounded_rows(bounds, box), bounded_poly(bounds, box)), (((),), (1,)))


class NotTrue(unittest.TestCase):
    def test_rows_inside_a_bounded_row(self):
        self.assertTrue(is_bounded(FIVE, (2, 2)))
        self.assertFalse(is_bounded(FIVE, (1, 1)))

    def test_the_least_failing_square_can_lie_on_the_high_diagonal(self):
        self.assertEqual(failing_square(SEVEN, (4, 4)), (2, 1))
        self.assertNotEqual(2 - 1, SEVEN.low_diagonal)

    def test_sizes_without_a_bounded_row(self):
        self.assertTrue(has_window(FIVE, Box(1, 2)))
        self.assertEqual(bounded_poly(FIVE, Box(1, 2)), (1, 1))


if __name__ == "__main__":
    unittest.main()

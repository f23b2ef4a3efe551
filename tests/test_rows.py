"""Promises [0.8], [0.9] and [3.1] to [3.4]: rows, held against the sets of their squares."""

import itertools
import unittest

from hookstrips.errors import InvalidNumber, InvalidOperation, InvalidRow
from hookstrips.shape.rows import (
    columns, has_square, hook_difference, hook_differences, is_inside, is_row, parts_of, put_together, ranks,
    row_of_columns, size_of, squares_on, turned,
)
from tests.samples import NO_INTEGERS_INSIDE, NO_TUPLES, rows_of_size, rows_to_size, squares, turned_by_squares

SMALL = rows_to_size(10)
FULL = (200,) * 60
WIDE = [(200,), (200, 1), (1,) * 60, FULL, tuple(range(60, 0, -1)), tuple(range(200, 140, -1)), (200,) * 30 + (7,) * 30]


def differences_by_squares(row, diagonal):
    """The pairs of a square on the diagonal and its hook difference, ascending."""
    all_squares = squares(row)
    told = []
    for r, c in sorted(all_squares):
        if r - c == diagonal:
            wide = len([1 for each in all_squares if each[0] == r])
            high = len([1 for each in all_squares if each[1] == c])
            told.append(((r, c), wide - high))
    return told


class Rows(unittest.TestCase):
    def test_rows(self):
        for value in SMALL + WIDE + [(), (1,), (200,), (3, 3, 1)]:
            self.assertIs(is_row(value), True)

    def test_no_rows(self):
        wrong = [(0,), (1, 0), (-1,), (1, 2), (2, 1, 2), (201,), (201, 200), (1,) * 61, (200,) * 61, (1, True), [2, 1]]
        for value in NO_TUPLES + NO_INTEGERS_INSIDE + wrong:
            with self.subTest(value=str(value)[:50]):
                self.assertIs(is_row(value), False)

    def test_sizes(self):
        for row in SMALL + WIDE:
            self.assertEqual(size_of(row), len(squares(row)))

    def test_turned_by_squares(self):
        for row in SMALL + WIDE[:3]:
            self.assertEqual(turned(row), turned_by_squares(row))

    def test_turned_twice(self):
        for row in SMALL + [(60,), (7, 7, 2), tuple(range(60, 0, -1))]:
            other = turned(row)
            self.assertEqual(turned(other), row)
            self.assertEqual(size_of(other), size_of(row))
            self.assertEqual(len(other), row[0] if row else 0)
            self.assertEqual(other[0] if other else 0, len(row))

    def test_turned_rows_can_be_too_long_to_be_passed(self):
        self.assertEqual(turned(FULL), (60,) * 200)
        self.assertEqual(turned((61,)), (1,) * 61)
        with self.assertRaises(InvalidRow):
            turned(turned((61,)))

    def test_parts_of(self):
        for row in SMALL + WIDE:
            for part in (1, 2, 3, 7, 60, 199, 200):
                self.assertEqual(parts_of(row, part), len([1 for each in row if each == part]))
        for part in (0, 201):
            with self.assertRaises(InvalidNumber) as caught:
                parts_of((3, 1, 1), part)
            self.assertEqual(caught.exception.given, part)


class Squares(unittest.TestCase):
    def test_has_square(self):
        pairs = list(itertools.product(range(-2, 13), repeat=2))
        for row in SMALL[::3]:
            for pair in pairs:
                self.assertIs(has_square(row, pair), pair in squares(row))

    def test_values_that_are_no_squares(self):
        kinds = [(True, 1), (1, True), (1,), (1, 1, 1), [1, 1], "11", None, 1, {1: 1}, ((1, 1),), (1, "1"), (1, None)]
        pairs = [(10 ** 60, 1), (1, 10 ** 60), (1, [1]), ((1,), 1), (61, 1), (1, 201), (0, 1), (-1, 1)]
        for value in kinds + pairs:
            self.assertIs(has_square(FULL, value), False)
        self.assertIs(has_square(FULL, (60, 200)), True)
        self.assertIs(has_square((), (1, 1)), False)

    def test_hook_differences_square_by_square(self):
        for row in SMALL:
            for diagonal in range(-11, 12):
                told = differences_by_squares(row, diagonal)
                self.assertEqual(squares_on(row, diagonal), tuple(square for square, _ in told))
                self.assertEqual(hook_differences(row, diagonal), tuple(number for _, number in told))
                for (r, c), number in told:
                    self.assertEqual(hook_difference(row, r, c), number)

    def test_places_that_are_no_squares(self):
        for row in ((), (1,), (4, 2, 1), (3, 3)):
            for r, c in itertools.product(range(1, 6), repeat=2):
                if (r, c) not in squares(row):
                    with self.assertRaises(InvalidOperation):
                        hook_difference(row, r, c)

    def test_places_at_their_bounds(self):
        self.assertEqual(hook_difference((200,), 1, 200), 199)
        self.assertEqual(hook_difference((1,) * 60, 60, 1), -59)
        self.assertEqual(hook_difference(FULL, 60, 200), 140)
        for r, c in ((200, 1), (61, 1), (200, 200)):
            with self.assertRaises(InvalidOperation):
                hook_difference(FULL, r, c)
        for r, c, wrong in ((0, 1, 0), (201, 1, 201), (1, 0, 0), (1, 201, 201), (0, 201, 0), (-1, 1, -1)):
            with self.assertRaises(InvalidNumber) as caught:
                hook_difference(FULL, r, c)
            self.assertEqual(caught.exception.given, wrong)

    def test_diagonals_at_their_bounds(self):
        self.assertEqual(squares_on((200,), -199), ((1, 200),))
        self.assertEqual(squares_on(FULL, -200), ())
        self.assertEqual(squares_on(FULL, 200), ())
        self.assertEqual(squares_on((1,) * 60, 59), ((60, 1),))
        self.assertEqual(squares_on(FULL, -140), tuple((r, r + 140) for r in range(1, 61)))
        self.assertEqual(hook_differences(FULL, 0), (140,) * 60)
        for call in (squares_on, hook_differences):
            for diagonal in (-201, 201):
                with self.assertRaises(InvalidNumber) as caught:
                    call(FULL, diagonal)
                self.assertEqual(caught.exception.given, diagonal)

    def test_the_turned_row_has_the_opposite_hook_differences(self):
        for row in SMALL:
            other = turned(row)
            for r, c in squares(row):
                self.assertEqual(hook_difference(other, c, r), -hook_difference(row, r, c))

    def test_parts_and_columns_never_rise_along_a_diagonal(self):
        for row in SMALL:
            other = turned(row)
            for diagonal in range(-9, 10):
                told = squares_on(row, diagonal)
                for (r, c), (s, d) in zip(told, told[1:]):
                    self.assertEqual((s, d), (r + 1, c + 1))
                    self.assertLessEqual(row[s - 1], row[r - 1])
                    self.assertLessEqual(other[d - 1], other[c - 1])

    def test_hook_differences_can_rise(self):
        self.assertLess(hook_difference((4, 2, 1), 1, 1), hook_difference((4, 2, 1), 1, 2))
        self.assertEqual(ranks((2, 2, 1, 1)), (-2, 0))


def falling_pairs(size, below=None):
    """All tuples of falling pairs whose a + b + 1 add up to a size."""
    found = [()] if size == 0 else []
    for a, b in itertools.product(range(size), repeat=2):
        if a + b + 1 <= size and (below is None or a < below[0] and b < below[1]):
            found += [((a, b),) + rest for rest in falling_pairs(size - a - b - 1, (a, b))]
    return found


class Columns(unittest.TestCase):
    def test_as_told(self):
        for row in SMALL:
            other = turned(row)
            many = len([j for j in range(1, len(row) + 1) if row[j - 1] >= j])
            told = tuple((row[j - 1] - j, other[j - 1] - j) for j in range(1, many + 1))
            self.assertEqual(columns(row), told)
            self.assertEqual(ranks(row), tuple(a - b for a, b in told))
            self.assertEqual(ranks(row), hook_differences(row, 0))
            self.assertEqual(squares_on(row, 0), tuple((j, j) for j in range(1, many + 1)))
            self.assertEqual(size_of(row), sum(a + b + 1 for a, b in told))
            self.assertEqual(columns(other), tuple((b, a) for a, b in told))

    def test_there_and_back(self):
        for row in SMALL + WIDE:
            self.assertEqual(row_of_columns(columns(row)), row)

    def test_each_falling_tuple_is_that_of_one_row(self):
        for size in range(13):
            told = falling_pairs(size)
            self.assertEqual(sorted(columns(row) for row in rows_of_size(size)), sorted(told))
            for pairs in told:
                self.assertEqual(columns(row_of_columns(pairs)), pairs)

    def test_sixty_and_sixty_one_pairs(self):
        falling = tuple((199 - at, 199 - at) for at in range(61))
        self.assertEqual(row_of_columns(falling[:60]), (200,) * 60 + (60,) * 140)
        with self.assertRaises(InvalidRow):
            row_of_columns(falling)
        self.assertEqual(columns(FULL), tuple((199 - at, 59 - at) for at in range(60)))

    def test_entries_at_their_bounds(self):
        self.assertEqual(row_of_columns(()), ())
        self.assertEqual(row_of_columns(((0, 0),)), (1,))
        self.assertEqual(row_of_columns(((199, 0),)), (200,))
        self.assertEqual(row_of_columns(((0, 199),)), (1,) * 200)
        for pair in ((200, 0), (0, 200), (-1, 0), (0, -1)):
            with self.assertRaises(InvalidRow):
                row_of_columns((pair,))

    def test_entries_that_do_not_fall(self):
        for pairs in (((2, 3), (2, 1)), ((3, 2), (1, 2)), ((1, 1), (2, 0)), ((1, 1), (0, 2)), ((2, 2), (1, 1), (1, 0))):
            with self.assertRaises(InvalidRow):
                row_of_columns(pairs)

    def test_equal_ranks_of_rows_of_two_sizes(self):
        self.assertEqual(ranks((1,)), ranks((2, 1)))


class TwoRows(unittest.TestCase):
    def test_put_together(self):
        for one, other in itertools.product(SMALL[::2], SMALL[::3]):
            row = put_together(one, other)
            self.assertTrue(is_row(row))
            for part in range(1, 11):
                self.assertEqual(parts_of(row, part), parts_of(one, part) + parts_of(other, part))
            lengths = itertools.zip_longest(turned(one), turned(other), fillvalue=0)
            self.assertEqual(turned(row), tuple(a + b for a, b in lengths))

    def test_more_than_sixty_parts_put_together(self):
        self.assertEqual(put_together(FULL, (1,) * 60), FULL + (1,) * 60)
        self.assertEqual(put_together((), ()), ())

    def test_is_inside_by_squares(self):
        for one, other in itertools.product(SMALL[::2], SMALL[::3]):
            self.assertIs(is_inside(one, other), squares(one) <= squares(other))
        self.assertIs(is_inside((), ()), True)
        self.assertIs(is_inside((1,) * 60, FULL), True)
        self.assertIs(is_inside(FULL, (200,) * 59), False)


if __name__ == "__main__":
    unittest.main()

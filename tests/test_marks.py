"""Promises [17.1] to [17.7]: marks, classes and relative heights, held against their words and listed rows."""

import itertools
import unittest

from hookstrips.errors import InvalidKind, InvalidNumber, InvalidOperation, InvalidRow, InvalidWalk, TooMany
from hookstrips.kinds.cut import rows_with_sides, sides_series
from hookstrips.kinds.folded import path_of, peaks_of
from hookstrips.kinds.gaps import Kind, gap_rows, gap_series
from hookstrips.kinds.marks import (
    class_for, class_least, class_of, class_series, classes_to, is_class, marks_of, relative_heights, rows_of_class,
)
from tests.samples import LONGEST, PAIR, TRIPLE, rows_to_size

TOLD = [(order, first) for order in range(2, 9) for first in range(1, order + 1)]
KINDS = [(told, Kind(*told)) for told in TOLD]
FEW = 13


def marks_told(row):
    """The marks, part by part."""
    got = []
    for part in sorted(row):
        mark = 1
        while (part, mark) in got or (part - 1, mark) in got:
            mark += 1
        got.append((part, mark))
    return tuple(mark for _, mark in got)


def class_told(row):
    marks = marks_told(row)
    return tuple(marks.count(mark) for mark in range(1, max(marks, default=0) + 1))


def padded(told, numbers):
    return numbers + (0,) * (told[0] - 1 - len(numbers))


def relative_told(path, j):
    """The relative height of the peak at the place j, by two lists of heights."""
    ahead, behind = [path[j]], [path[j]]
    for height in reversed(path[:j]):
        if height > path[j]:
            break
        ahead.append(height)
    for height in path[j + 1:] + (0,):
        if height >= path[j]:
            break
        behind.append(height)
    return path[j] - max(min(ahead), min(behind))


def falling(order, most):
    """All falling tuples of k - 1 integers from 0 to the most one."""
    lots = itertools.combinations_with_replacement(range(most, -1, -1), order - 1)
    return sorted(lots)


def least_told(told, numbers):
    return sum(number ** 2 for number in numbers) + sum(numbers[r - 1] for r in range(told[1], told[0]))


class Marks(unittest.TestCase):
    def test_part_by_part(self):
        for row in rows_to_size(FEW):
            marks = marks_of(row)
            self.assertEqual(marks, marks_told(row))
            pairs = list(zip(sorted(row), marks))
            for (part, mark), (other, more) in itertools.combinations(pairs, 2):
                if other - part <= 1:
                    self.assertNotEqual(mark, more)

    def test_great_rows(self):
        self.assertEqual(marks_of((200,) * 60), tuple(range(1, 61)))
        self.assertEqual(marks_of((200,) * 30 + (199,) * 30), tuple(range(1, 61)))
        self.assertEqual(marks_of(tuple(range(60, 0, -1))), (1, 2) * 30)
        self.assertEqual(class_of(tuple(range(120, 0, -2))), (60,))
        for row in ((201,), (1,) * 61, (1, 2), None, [1], (True,)):
            for call in (marks_of, class_of, lambda row: class_for(TRIPLE, row)):
                with self.assertRaises(InvalidRow):
                    call(row)

    def test_classes(self):
        for row in rows_to_size(FEW):
            numbers = class_of(row)
            self.assertEqual(numbers, class_told(row))
            self.assertEqual(sum(numbers), len(row))
            self.assertEqual(list(numbers), sorted(numbers, reverse=True))
            self.assertNotIn(0, numbers)

    def test_classes_for_kinds(self):
        for told, kind in KINDS:
            rows = {row for size in range(FEW + 1) for row in gap_rows(kind, size)}
            for row in rows_to_size(FEW):
                if row in rows:
                    self.assertLess(max(marks_of(row), default=0), told[0])
                    self.assertEqual(class_for(kind, row), padded(told, class_told(row)))
                else:
                    with self.assertRaises(InvalidOperation):
                        class_for(kind, row)


class RelativeHeights(unittest.TestCase):
    def test_by_lists_of_heights(self):
        for told, kind in KINDS:
            for size in range(FEW + 1):
                for row in gap_rows(kind, size):
                    path = path_of(kind, row)
                    heights = relative_heights(kind, path)
                    self.assertEqual(heights, tuple(relative_told(path, j) for j, _ in peaks_of(kind, path)))
                    self.assertTrue(all(1 <= height < told[0] for height in heights))
                    # Promise [17.4].
                    numbers = class_for(kind, row) + (0,)
                    counts = [heights.count(r) for r in range(1, told[0])]
                    self.assertEqual(counts, [one - other for one, other in zip(numbers, numbers[1:])])
                    self.assertEqual((len(heights), sum(heights)), (numbers[0], len(row)))

    def test_long_paths(self):
        high = (1,) + (2, 1) * 199 + (2,)
        self.assertEqual(relative_heights(TRIPLE, high), (1,) * 200)
        self.assertEqual(relative_heights(TRIPLE, (1, 0, 1, 2, 1, 0, 1)), (2, 1))
        self.assertEqual(relative_heights(TRIPLE, (1,) + (0,) * 399 + (1,)), (1,))
        self.assertEqual(relative_heights(TRIPLE, (1,)), ())
        self.assertEqual(relative_heights(Kind(4, 1), (3, 2, 3, 2, 1, 0, 1, 2, 3, 2, 3)), (1, 1, 3))

    def test_what_are_no_paths(self):
        for path in (None, (), (0,), (1, 0), (1, 1), [1], (1, 2, 3), (True,)):
            with self.assertRaises(InvalidWalk):
                relative_heights(TRIPLE, path)
            with self.assertRaises(InvalidKind):
                relative_heights(None, path)


class Classes(unittest.TestCase):
    def test_which_tuples_are_classes(self):
        for told, kind in KINDS:
            many = told[0] - 1
            for numbers in ((0,) * many, (20,) * many, (20,) + (0,) * (many - 1), tuple(range(many, 0, -1))):
                self.assertIs(is_class(kind, numbers), True)
            for numbers in (
                (21,) * many, (-1,) * many, (0,) * (many + 1), (0,) * (many - 1), (True,) * many, [0] * many, None,
                tuple(range(-1, many - 1)) if many > 1 else (-1,), (None,) * many, (LONGEST,) * many, "0" * many,
            ):
                self.assertIs(is_class(kind, numbers), False)
                for call in (class_least, lambda *told: class_series(*told, 101), lambda *told: rows_of_class(*told, 31)):
                    with self.assertRaises(InvalidOperation):
                        call(kind, numbers)
        self.assertIs(is_class(TRIPLE, (1, 2)), False)

    def test_series_of_listed_rows(self):
        for told, kind in KINDS:
            rows = {}
            for size in range(FEW + 1):
                for row in gap_rows(kind, size):
                    rows.setdefault(padded(told, class_told(row)), []).append(row)
            for numbers in falling(told[0], 2) + falling(min(told[0], 4), 4) * (told[0] <= 4):
                sizes = [sum(row) for row in rows.get(numbers, [])]
                counts = tuple(sizes.count(size) for size in range(FEW + 1))
                for size in (0, 1, FEW):
                    self.assertEqual(class_series(kind, numbers, size), counts[:size + 1])
                for size in (0, 5, FEW):
                    of_size = tuple(sorted(row for row in rows.get(numbers, []) if sum(row) == size))
                    self.assertEqual(rows_of_class(kind, numbers, size), of_size)

    def test_least_rows(self):
        for told, kind in KINDS:
            for numbers in falling(told[0], 2):
                least = class_least(kind, numbers)
                self.assertEqual(least, least_told(told, numbers))
                if least <= 100:
                    self.assertEqual(class_series(kind, numbers, least), (0,) * least + (1,))
                if least <= 22:
                    self.assertEqual(len(rows_of_class(kind, numbers, least)), 1)

    def test_all_classes_together(self):
        for told, kind in KINDS:
            total = [0] * 41
            for numbers in classes_to(kind, 40):
                total = [one + other for one, other in zip(total, class_series(kind, numbers, 40))]
            self.assertEqual(tuple(total), gap_series(kind, 40))

    def test_classes_to_a_size(self):
        for told, kind in KINDS:
            every = falling(told[0], 7 if told[0] < 6 else 4)
            for size in (0, 1, 2, 5, 11, 24):
                numbers = [numbers for numbers in every if least_told(told, numbers) <= size]
                self.assertEqual(classes_to(kind, size), tuple(numbers))
            self.assertTrue(all(is_class(kind, numbers) for numbers in classes_to(kind, 40)))
        self.assertEqual(classes_to(PAIR, 40), tuple((number,) for number in range(7)))
        self.assertEqual(classes_to(PAIR, 0), ((0,),))

    def test_great_numbers(self):
        self.assertEqual(class_least(Kind(8, 1), (20,) * 7), 2940)
        self.assertEqual(class_series(Kind(8, 1), (20,) * 7, 100), (0,) * 101)
        self.assertEqual(class_series(PAIR, (10,), 100), (0,) * 100 + (1,))

    def test_bounds(self):
        for call, first, most in (
            (class_series, (TRIPLE, (2, 1)), 100), (classes_to, (TRIPLE,), 40), (rows_of_class, (TRIPLE, (2, 1)), 30),
        ):
            call(*first, most)
            for size in (-1, most + 1, True):
                with self.assertRaises(InvalidNumber) as caught:
                    call(*first, size)
                self.assertIs(caught.exception.given, size)

    def test_3000_rows_and_more(self):
        eight = Kind(8, 8)
        for size in range(20, 31):
            number = gap_series(eight, size)[size]
            if number > 3000:
                with self.assertRaises(TooMany) as caught:
                    rows_of_class(eight, (0,) * 7, size)
                self.assertEqual(caught.exception.limit, 3000)
            else:
                self.assertEqual(rows_of_class(eight, (1,) + (0,) * 6, size), ((size,),))
        self.assertGreater(gap_series(eight, 30)[30], 3000)

    def test_squares_have_the_same_classes(self):
        for order in range(2, 9):
            kind = Kind(order, order)
            for numbers in classes_to(kind, 40):
                sides = tuple(number for number in numbers if number > 0)
                self.assertEqual(class_series(kind, numbers, 100), sides_series(sides, 100))
                for size in (6, 13):
                    self.assertEqual(len(rows_of_class(kind, numbers, size)), len(rows_with_sides(sides, size)))


class NotTrue(unittest.TestCase):
    def test_marks_from_the_greatest_part_on(self):
        # From there on the part 2 would get the mark 1, and the part 1 the mark 2.
        self.assertEqual(marks_of((2, 1)), (1, 2))

    def test_heights_of_peaks(self):
        self.assertEqual(class_for(TRIPLE, (1,)), class_for(TRIPLE, (2,)))
        heights = [[y for _, y in peaks_of(TRIPLE, path_of(TRIPLE, row))] for row in ((1,), (2,))]
        self.assertEqual(heights, [[2], [1]])


if __name__ == "__main__":
    unittest.main()

"""Promises [18.1] to [18.5]: rows cut into squares, held against their squares and against listed rows."""

import itertools
import unittest

from hookstrips.base.polys import multiplied, over_factors_to, shifted
from hookstrips.endless.series import parts_series
from hookstrips.errors import InvalidNumber, InvalidOperation
from hookstrips.kinds.cut import (
    are_pieces, cut_row, cut_rows, cut_series, joined_row, rows_with_sides, sides_series, successive_squares,
)
from hookstrips.kinds.gaps import Kind, gap_series, is_gap_row
from hookstrips.shape.gauss import gaussian
from tests.samples import rows_of_size, rows_to_size, squares, turned_by_squares

ORDERS = range(2, 9)


def pieces_by_squares(row):
    """The pieces, by the words of the document and the squares of the row."""
    if row == ():
        return ()
    side = max(d for d in range(1, len(row) + 1) if len([part for part in row if part >= d]) >= d)
    assert {(r, c) for r in range(1, side + 1) for c in range(1, side + 1)} <= squares(row)
    beside = tuple(part - side for part in row[:side] if part != side)
    return ((side, beside),) + pieces_by_squares(row[side:])


def told_pieces(pieces):
    """Whether pairs of a side and of a row are those of some row, by [18.2]."""
    for at, (side, beside) in enumerate(pieces):
        ahead = pieces[at - 1][0] if at else None
        if len(beside) > side or ahead is not None and side > ahead:
            return False
        if ahead is not None and beside and beside[0] > ahead - side:
            return False
    return True


def all_sides(size, most=None):
    """All falling tuples of sides whose squares have at most so many squares in all."""
    found = [()]
    for side in range(1, size + 1):
        if side * side <= size and (most is None or side <= most):
            found += [(side,) + rest for rest in all_sides(size - side * side, side)]
    return found


class Pieces(unittest.TestCase):
    def test_cut(self):
        for row in rows_to_size(14):
            pieces = pieces_by_squares(row)
            self.assertEqual(cut_row(row), pieces)
            self.assertEqual(successive_squares(row), tuple(side for side, _ in pieces))

    def test_joined_again(self):
        for row in rows_to_size(14) + [(200,) * 60, (1,) * 60, (200,), (60,) * 60, (199, 7, 7, 7, 2)]:
            self.assertIs(are_pieces(cut_row(row)), True)
            self.assertEqual(joined_row(cut_row(row)), row)

    def test_all_pairs_tell_a_row(self):
        sides, besides = range(1, 4), rows_to_size(3)
        pairs = list(itertools.product(sides, besides))
        for many in range(4):
            for pieces in itertools.product(pairs if many < 3 else pairs[::2], repeat=many):
                self.assertIs(are_pieces(pieces), told_pieces(pieces))
                if told_pieces(pieces):
                    self.assertEqual(cut_row(joined_row(pieces)), pieces)
                else:
                    with self.assertRaises(InvalidOperation):
                        joined_row(pieces)

    def test_60_parts_and_parts_200(self):
        self.assertEqual(joined_row(((1, ()),) * 60), (1,) * 60)
        self.assertEqual(joined_row(((60, (140,) * 60),)), (200,) * 60)
        self.assertEqual(joined_row(((1, (199,)),)), (200,))
        for pieces in (
            ((1, ()),) * 61, ((61, ()),), ((60, (141,)),), ((1, (200,)),), ((30, ()), (30, ()), (1, ())),
            ((30, (171,)), (30, ())),
        ):
            self.assertIs(are_pieces(pieces), False)
            with self.assertRaises(InvalidOperation):
                joined_row(pieces)

    def test_other_values(self):
        for value in (
            None, 1, "", [], {}, (1,), ((1,),), (((1, ()),),), ([1, ()],), ((1, []),), ((True, ()),), ((1, (True,)),),
            ((0, ()),), ((2, (1, 2)),), ((1, (0,)),), ((1, ()), ()), ((1, (), ()),), ((1.0, ()),),
        ):
            self.assertIs(are_pieces(value), False)
            with self.assertRaises(InvalidOperation):
                joined_row(value)


class ListedRows(unittest.TestCase):
    def test_few_sides(self):
        for size in (*range(13), 24):
            sides = {row: len(pieces_by_squares(row)) for row in rows_of_size(size)}
            for order in ORDERS:
                told = sorted(row for row in sides if sides[row] <= order - 1)
                self.assertEqual(cut_rows(order, size), tuple(told))

    def test_these_sides(self):
        for size in (0, 1, 2, 6, 9, 13, 24):
            rows = {}
            for row in rows_of_size(size):
                rows.setdefault(tuple(side for side, _ in pieces_by_squares(row)), []).append(row)
            for sides in all_sides(size + 3):
                if len(sides) <= 7:
                    self.assertEqual(rows_with_sides(sides, size), tuple(sorted(rows.get(sides, []))))

    def test_bounds(self):
        for call, first in ((cut_rows, 3), (rows_with_sides, (2, 1))):
            for size in (-1, 25, True):
                with self.assertRaises(InvalidNumber) as caught:
                    call(first, size)
                self.assertIs(caught.exception.given, size)
        for call in (cut_rows, cut_series):
            for order in (1, 9, None):
                with self.assertRaises(InvalidNumber) as caught:
                    call(order, -1)
                self.assertIs(caught.exception.given, order)
        for sides in ((11,), (0,), (1, 2), (1,) * 8, [1], None, (True,)):
            for call in (rows_with_sides, sides_series):
                with self.assertRaises(InvalidOperation):
                    call(sides, -1)
        self.assertEqual(rows_with_sides((10,) * 7, 24), ())
        self.assertEqual(rows_with_sides((1,) * 7, 7), ((1,) * 7,))
        self.assertEqual(rows_with_sides((), 1), ())


class Series(unittest.TestCase):
    def test_listed_rows(self):
        for order in ORDERS:
            counts = tuple(len(cut_rows(order, size)) for size in range(19))
            self.assertEqual(cut_series(order, 18), counts)
            self.assertEqual(cut_series(order, 0), (1,))
        for sides in all_sides(18):
            if len(sides) <= 7:
                counts = tuple(len(rows_with_sides(sides, size)) for size in range(19))
                self.assertEqual(sides_series(sides, 18), counts)

    def test_both_products(self):
        for sides in [*all_sides(30), (10,), (10, 4), (9, 6, 1), (10,) * 7, (6, 6, 6)]:
            if len(sides) > 7:
                continue
            least = sum(side * side for side in sides)
            product = (1,)
            for side, behind in zip(sides, sides[1:]):
                product = multiplied(product, gaussian(side, behind))
            told = over_factors_to(shifted(product, least), sides[0] if sides else 0, 120)
            self.assertEqual(sides_series(sides, 120), told)
            self.assertEqual(sides_series(sides, 40), told[:41])

    def test_as_many_as_gap_rows_and_rows_without_remainders(self):
        for order in ORDERS:
            told = gap_series(Kind(order, order), 120)
            self.assertEqual(cut_series(order, 120), told)
            parts = [part for part in range(1, 121) if part % (2 * order + 1) not in (0, order, order + 1)]
            self.assertEqual(parts_series(tuple(parts), 120), told)

    def test_all_sides_together(self):
        for order in (2, 3, 5, 8):
            total = [0] * 61
            for sides in all_sides(60):
                if len(sides) <= order - 1:
                    total = [number + more for number, more in zip(total, sides_series(sides, 60))]
            self.assertEqual(cut_series(order, 60), tuple(total))

    def test_bounds(self):
        for call, first in ((cut_series, 3), (sides_series, (2, 1))):
            self.assertEqual(len(call(first, 120)), 121)
            for size in (-1, 121):
                with self.assertRaises(InvalidNumber) as caught:
                    call(first, size)
                self.assertEqual(caught.exception.given, size)

    def test_none_of_these_is_true(self):
        self.assertEqual(turned_by_squares((3,)), (1, 1, 1))
        self.assertNotEqual(successive_squares((3,)), successive_squares((1, 1, 1)))
        self.assertEqual(successive_squares((3, 3)), (2,))
        self.assertIn((3, 3), cut_rows(2, 6))
        self.assertIs(is_gap_row(Kind(2, 2), (3, 3)), False)


if __name__ == "__main__":
    unittest.main()

"""Promises [0.17] and [14.1] to [14.5]: kinds and gap rows, held against their parts, words and listed rows."""

import itertools
import unittest

from hookstrips.diagonal.bounds import Bounds, has_window
from hookstrips.diagonal.sums import sum_poly
from hookstrips.endless.series import parts_series
from hookstrips.errors import InvalidKind, InvalidNumber, InvalidOperation, InvalidRow, TooMany
from hookstrips.kinds.gaps import (
    Kind, finite_parts, finite_sum, gap_fault, gap_place, gap_poly, gap_row_at, gap_rows, gap_series, gap_table,
    is_gap_row,
)
from hookstrips.shape.boxes import Box
from hookstrips.shape.words import depth_of, drop_of, word_of
from tests.samples import LONGEST, OBJECTS, PAIR, TRIPLE, counted, rows_of_size, rows_to_size, turned_by_squares

TOLD = [(order, first) for order in range(2, 9) for first in range(1, order + 1)]
KINDS = [(told, Kind(*told)) for told in TOLD]
FEW = 13


def has_gaps(told, row):
    """Whether a row is a gap row, by its numbers of parts."""
    order, first = told
    if row.count(1) > first - 1:
        return False
    return all(row.count(j) + row.count(j + 1) <= order - 1 for j in range(1, max(row, default=0) + 1))


def listed(told, size):
    return [row for row in rows_of_size(size) if has_gaps(told, row)]


class Kinds(unittest.TestCase):
    def test_properties(self):
        for (order, first), kind in KINDS:
            self.assertEqual((kind.order, kind.first, kind.modulus), (order, first, 2 * order + 1))
            self.assertEqual(str(kind), f"kind {order}, {first}")

    def test_equal_kinds(self):
        for told, kind in KINDS:
            for others, other in KINDS:
                self.assertIs(kind == other, told == others)
                self.assertIs(kind != other, told != others)
            for value in [None, True, 3, "kind 3, 2", told, list(told), {}, Bounds(5, 2, 1, 1), Box(3, 2)]:
                self.assertIs(kind == value, False)
                self.assertIs(kind != value, True)

    def test_bounds(self):
        for order, first, wrong in (
            (1, 1, 1), (9, 1, 9), (9, 10, 9), (3, 0, 0), (3, 4, 4), (8, 9, 9), (2, -1, -1), (True, 1, True),
            (2, True, True), (None, None, None), ("3", 2, "3"), (3, [2], [2]), (10 ** 60, 0, 10 ** 60),
        ):
            with self.assertRaises(InvalidNumber) as caught:
                Kind(order, first)
            self.assertEqual(caught.exception.given, wrong)
            self.assertIs(type(caught.exception.given), type(wrong))

    def test_a_kind_never_changes_and_is_not_iterated_over(self):
        for name in ("order", "first", "modulus"):
            with self.assertRaises(AttributeError):
                setattr(TRIPLE, name, 2)
        for call in (iter, list, lambda value: 2 in value):
            with self.assertRaises(TypeError):
                call(TRIPLE)


class GapRows(unittest.TestCase):
    def test_by_parts(self):
        for told, kind in KINDS:
            for row in rows_to_size(FEW):
                self.assertIs(is_gap_row(kind, row), has_gaps(told, row))

    def test_by_words(self):
        for (order, first), kind in KINDS:
            for row in rows_to_size(FEW):
                word = word_of(row)
                self.assertIs(is_gap_row(kind, row), depth_of(word) <= first - 1 and drop_of(word) <= order - 1)

    def test_parts_that_stand_behind(self):
        for (order, first), kind in KINDS:
            for row in rows_to_size(FEW):
                far = all(row[at] - row[at + order - 1] >= 2 for at in range(len(row) - order + 1))
                self.assertIs(is_gap_row(kind, row), far and row.count(1) <= first - 1)

    def test_faults(self):
        for (order, first), kind in KINDS:
            for row in rows_to_size(FEW):
                fault = gap_fault(kind, row)
                if row.count(1) > first - 1:
                    self.assertIs(type(fault), int)
                    self.assertEqual(fault, 0)
                    continue
                faults = [j for j in range(1, 20) if row.count(j) + row.count(j + 1) > order - 1]
                self.assertEqual(fault, min(faults, default=None))

    def test_great_faults(self):
        self.assertEqual(gap_fault(PAIR, (200, 200)), 199)
        self.assertEqual(gap_fault(PAIR, (200, 199, 3)), 199)
        self.assertEqual(gap_fault(Kind(8, 8), (200,) * 60), 199)
        self.assertIsNone(gap_fault(PAIR, ()))
        self.assertIsNone(gap_fault(PAIR, tuple(range(200, 80, -2))))
        for row in ((201,), (1,) * 61, (1, 2), None):
            with self.assertRaises(InvalidRow):
                gap_fault(PAIR, row)

    def test_long_rows_and_great_parts(self):
        for row in (
            tuple(range(401, 0, -2)), (10 ** 99,), (10 ** 60, 10 ** 60 - 2), (LONGEST + 1, 5, 3, 1),
            tuple(range(9000, 1, -3)), (201,),
        ):
            self.assertIs(is_gap_row(PAIR, row), True)
            self.assertIs(is_gap_row(PAIR, row + (0,)), False)
            self.assertIs(is_gap_row(PAIR, row + (10 ** 100,)), False)
            self.assertIs(is_gap_row(PAIR, row + (None,)), False)
            self.assertIs(is_gap_row(PAIR, list(row)), False)
        self.assertIs(is_gap_row(PAIR, (10 ** 60, 10 ** 60 - 1)), False)
        self.assertIs(is_gap_row(PAIR, tuple(range(400, 0, -1))), False)
        self.assertIs(is_gap_row(TRIPLE, tuple(range(400, 0, -1))), True)
        self.assertIs(is_gap_row(Kind(3, 1), tuple(range(400, 0, -1))), False)

    def test_other_values(self):
        for value in (None, 1, "", "1", [], {}, (True,), (3, True), ((1,),), ("3",), (0,), (-1,), (1, 3), *OBJECTS):
            for _, kind in KINDS:
                self.assertIs(is_gap_row(kind, value), False)
        for kind in (None, (3, 2), 3, Box(3, 2)):
            with self.assertRaises(InvalidKind):
                is_gap_row(kind, (1,))

    def test_parts_left_out_and_moved(self):
        for told, kind in KINDS:
            for row in rows_to_size(10):
                if not is_gap_row(kind, row):
                    continue
                for many in range(len(row) + 1):
                    self.assertTrue(all(is_gap_row(kind, left) for left in itertools.combinations(row, many)))
                self.assertTrue(is_gap_row(kind, tuple(part + 1 for part in row)))
                if 1 not in row and row.count(2) <= told[1] - 1:
                    self.assertTrue(is_gap_row(kind, tuple(part - 1 for part in row)))


class Listings(unittest.TestCase):
    def test_rows(self):
        for told, kind in KINDS:
            for size in range(FEW + 1):
                self.assertEqual(gap_rows(kind, size), tuple(sorted(listed(told, size))))

    def test_rows_of_greater_sizes(self):
        for told, kind in KINDS:
            for size, number in enumerate(gap_series(kind, 60)):
                if number > 3000:
                    break
                if size > FEW and size % 4 == told[0] % 4 or number > 1500:
                    rows = gap_rows(kind, size)
                    self.assertEqual(len(rows), number)
                    self.assertEqual(sorted(set(rows)), list(rows))
                    self.assertTrue(all(sum(row) == size and is_gap_row(kind, row) for row in rows))

    def test_series(self):
        for told, kind in KINDS:
            counts = tuple(len(listed(told, size)) for size in range(FEW + 1))
            for size in range(FEW + 1):
                self.assertEqual(gap_series(kind, size), counts[:size + 1])

    def test_as_many_as_rows_without_remainders(self):
        for (order, first), kind in KINDS:
            let = [part for part in range(1, 201) if part % kind.modulus not in (0, first, kind.modulus - first)]
            told = parts_series(tuple(let), 200)
            for size in (0, 1, 60, 61, 199, 200):
                self.assertEqual(gap_series(kind, size), told[:size + 1])

    def test_tables(self):
        for told, kind in KINDS:
            for size in range(FEW + 1):
                rows = [row for each in range(size + 1) for row in listed(told, each)]
                table = []
                for many in range(max(map(len, rows)) + 1):
                    sizes = [sum(row) for row in rows if len(row) == many]
                    table.append(tuple(sizes.count(each) for each in range(size + 1)))
                self.assertEqual(gap_table(kind, size), tuple(table))

    def test_great_tables(self):
        for (order, first), kind in KINDS:
            table = gap_table(kind, 60)
            self.assertEqual(tuple(map(sum, zip(*table))), gap_series(kind, 60))
            # So many parts have the least size 1, .., 1, 3, .., 3, 5 .., or 2, .., 2, 4, .., 4 with fewer parts 1.
            many = len(table) - 1
            least = [1] * (first - 1) + [2] * (order - first) + [
                part for more in range(30) for part in [3 + 2 * more] * (first - 1) + [4 + 2 * more] * (order - first)
            ]
            self.assertLessEqual(sum(least[:many]), 60)
            self.assertGreater(sum(least[:many + 1]), 60)
            self.assertEqual(gap_table(kind, 0), ((1,),))

    def test_bounds(self):
        for call, most in ((gap_rows, 60), (gap_table, 60), (gap_series, 200), (gap_poly, 40)):
            call(PAIR, most)
            for size in (-1, most + 1):
                with self.assertRaises(InvalidNumber) as caught:
                    call(PAIR, size)
                self.assertEqual(caught.exception.given, size)

    def test_3000_rows_and_more(self):
        met = 0
        for told, kind in KINDS:
            series = gap_series(kind, 60)
            for size, number in enumerate(series):
                if number > 3000:
                    self.assertLessEqual(len(gap_rows(kind, size - 1)), 3000)
                    with self.assertRaises(TooMany) as caught:
                        gap_rows(kind, size)
                    self.assertEqual(caught.exception.limit, 3000)
                    met += 1
                    break
            else:
                rows = gap_rows(kind, 60)
                self.assertEqual(len(rows), series[60])
                self.assertTrue(all(has_gaps(told, row) and sum(row) == 60 for row in rows))
                self.assertEqual(sorted(set(rows)), list(rows))
        self.assertGreater(met, 20)


class Places(unittest.TestCase):
    def test_there_and_back(self):
        for told, kind in KINDS:
            for size in range(FEW + 1):
                for place, row in enumerate(sorted(listed(told, size))):
                    self.assertEqual(gap_row_at(kind, size, place), row)
                    self.assertEqual(gap_place(kind, row), place)

    def test_more_than_3000_rows(self):
        for told in ((8, 8), (8, 1), (5, 3), (3, 2), (4, 4)):
            kind = Kind(*told)
            for size in (41, 59, 60):
                number = gap_series(kind, size)[size]
                rows = [gap_row_at(kind, size, place) for place in (0, 1, number // 3, number // 3 + 1, number - 1)]
                self.assertEqual(rows, sorted(rows))
                self.assertEqual(rows[-1], (size,))
                for row, place in zip(rows, (0, 1, number // 3, number // 3 + 1, number - 1)):
                    self.assertTrue(has_gaps(told, row) and sum(row) == size)
                    self.assertEqual(gap_place(kind, row), place)
                for place in (-1, number):
                    with self.assertRaises(InvalidNumber) as caught:
                        gap_row_at(kind, size, place)
                    self.assertEqual(caught.exception.given, place)

    def test_no_rows(self):
        self.assertEqual(gap_rows(Kind(2, 1), 1), ())
        for place in (0, 1, -1):
            with self.assertRaises(InvalidNumber) as caught:
                gap_row_at(Kind(2, 1), 1, place)
            self.assertEqual(caught.exception.given, place)
        self.assertEqual((gap_row_at(PAIR, 0, 0), gap_place(PAIR, ())), ((), 0))

    def test_size_60_and_61(self):
        self.assertEqual(gap_place(PAIR, (60,)), gap_series(PAIR, 60)[60] - 1)
        for row in ((61,), (60, 1), (200,), (58, 3), (2, 1), (1, 1)):
            with self.assertRaises(InvalidOperation):
                gap_place(PAIR, row)
        for size in (-1, 61):
            with self.assertRaises(InvalidNumber) as caught:
                gap_row_at(PAIR, size, -1)
            self.assertEqual(caught.exception.given, size)


class Polynomials(unittest.TestCase):
    def test_listed_rows(self):
        for told, kind in KINDS:
            order, first = told
            for greatest in range(5 if order < 5 else 4):
                rows = []
                for many in itertools.product(range(order), repeat=greatest):
                    row = tuple(part for part in range(greatest, 0, -1) for _ in range(many[part - 1]))
                    if has_gaps(told, row):
                        rows.append(row)
                self.assertEqual(gap_poly(kind, greatest), counted(map(sum, rows)))

    def test_layers(self):
        for (order, first), kind in KINDS:
            layer = [(1,)] * order
            for greatest in range(1, 8):
                grown = []
                for s in range(order):
                    total = [0] * 400
                    for t in range(min(s, first - 1 if greatest == 1 else s) + 1):
                        for at, number in enumerate(layer[order - 1 - t]):
                            total[at + t * greatest] += number
                    grown.append(tuple(total[:max(at for at, number in enumerate(total) if number) + 1]))
                layer = grown
                self.assertEqual(gap_poly(kind, greatest), layer[order - 1])

    def test_greatest_parts(self):
        for (order, first), kind in KINDS:
            poly = gap_poly(kind, 40)
            self.assertEqual(poly[:41], gap_series(kind, 40))
            # The greatest row has k - 1 of each even part.
            self.assertEqual((len(poly) - 1, poly[-1]), ((order - 1) * 420, 1))
            self.assertEqual(gap_poly(kind, 0), (1,))

    def test_finite_forms(self):
        for first in (1, 2):
            kind = Kind(2, first)
            for greatest in range(41):
                poly = gap_poly(kind, greatest)
                self.assertEqual(finite_sum(kind, greatest), poly)
                bounds, box = finite_parts(kind, greatest)
                self.assertTrue(bounds == Bounds(5, first, 1, 1))
                sides = (greatest + 4 - first) // 2, (greatest + first - 1) // 2
                self.assertEqual((box.wide, box.high), sides)
                self.assertTrue(has_window(bounds, box))
                self.assertEqual(sum_poly(bounds, box), poly)

    def test_other_orders_have_none(self):
        for (order, first), kind in KINDS:
            for call in (finite_sum, finite_parts):
                for greatest in (-1, 41):
                    with self.assertRaises(InvalidNumber) as caught:
                        call(kind, greatest)
                    self.assertEqual(caught.exception.given, greatest)
                if order > 2:
                    with self.assertRaises(InvalidOperation):
                        call(kind, 4)


class NotTrue(unittest.TestCase):
    def test_turned_gap_rows(self):
        self.assertTrue(is_gap_row(PAIR, (3, 1)))
        self.assertFalse(is_gap_row(PAIR, turned_by_squares((3, 1))))

    def test_kinds_of_one_order_have_unlike_numbers(self):
        one, other = gap_series(Kind(2, 1), 200), gap_series(PAIR, 200)
        self.assertTrue(all(number < more for number, more in zip(one[11:], other[11:])))


if __name__ == "__main__":
    unittest.main()

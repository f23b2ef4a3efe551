"""Promises [15.1] to [15.5]: rest rows and rank rows, held against lists of all rows and against gap rows."""

import unittest

from hookstrips.diagonal.bounds import Bounds, is_bounded
from hookstrips.endless.series import series_times, pentagon_series
from hookstrips.errors import InvalidKind, InvalidNumber, TooMany
from hookstrips.kinds.gaps import Kind, gap_series, gap_table
from hookstrips.kinds.rests import (
    is_rank_row, is_rest_row, let_parts, rank_kinds, rank_rows, rank_series, rank_span, rest_rows, rest_series,
    rest_table,
)
from hookstrips.shape.rows import put_together
from tests.samples import LONGEST, PAIR, TRIPLE, rows_of_size, rows_to_size, squares, turned_by_squares

TOLD = [(order, first) for order in range(2, 9) for first in range(1, order + 1)]
KINDS = [(told, Kind(*told)) for told in TOLD]
FEW = 12


def is_let(told, part):
    order, first = told
    return part % (2 * order + 1) not in (0, first, 2 * order + 1 - first)


def ranks_of(row):
    """The hook differences on the diagonal 0, by the squares."""
    other = turned_by_squares(row)
    return [row[r - 1] - other[c - 1] for r, c in sorted(squares(row)) if r == c]


RANKS = {row: ranks_of(row) for row in rows_to_size(FEW)}


def has_ranks(told, row):
    order, first = told
    return all(2 - first <= rank <= 2 * order - first - 1 for rank in RANKS[row])


class RestRows(unittest.TestCase):
    def test_by_parts(self):
        for told, kind in KINDS:
            for row in RANKS:
                self.assertIs(is_rest_row(kind, row), all(is_let(told, part) for part in row))

    def test_let_parts(self):
        for told, kind in KINDS:
            for most in (0, 1, 2, 17, 200):
                parts = tuple(part for part in range(1, most + 1) if is_let(told, part))
                self.assertEqual(let_parts(kind, most), parts)
            self.assertEqual(len({0, kind.first, kind.modulus - kind.first}), 3)

    def test_put_together(self):
        for told, kind in KINDS[::4]:
            rows = [row for row in rows_to_size(6) if is_rest_row(kind, row)]
            for one in rows:
                self.assertTrue(all(is_rest_row(kind, put_together(one, other)) for other in rows))
        # (2,) is inside (3,).
        self.assertEqual([is_rest_row(TRIPLE, row) for row in ((3,), (2,))], [True, False])

    def test_long_rows_and_great_parts(self):
        self.assertTrue(is_rest_row(PAIR, (1,) * 60))
        self.assertFalse(is_rest_row(PAIR, (1,) * 61))
        self.assertTrue(is_rest_row(PAIR, (199,) * 60))
        self.assertFalse(is_rest_row(PAIR, (201,)))
        self.assertTrue(is_rank_row(PAIR, (60,) * 60))
        self.assertFalse(is_rank_row(PAIR, (61,) * 61))
        self.assertFalse(is_rank_row(PAIR, (201,)))
        self.assertTrue(is_rank_row(Kind(8, 1), (200,) * 60) is False)
        for judge in (is_rest_row, is_rank_row):
            self.assertIs(judge(PAIR, ()), True)
            for value in (None, [], "", (0,), (1, 4), (1, 1.0), (True,), (4, True), (LONGEST,)):
                self.assertIs(judge(PAIR, value), False)

    def test_listed_rows(self):
        for told, kind in KINDS:
            for size in range(FEW + 1):
                rows = [row for row in rows_of_size(size) if all(is_let(told, part) for part in row)]
                self.assertEqual(rest_rows(kind, size), tuple(sorted(rows)))
                numbers = [len(row) for row in rows]
                table = {many: numbers.count(many) for many in sorted(set(numbers))}
                self.assertEqual(rest_table(kind, size), table)
                self.assertEqual(list(rest_table(kind, size)), sorted(table))

    def test_great_tables(self):
        for told, kind in KINDS:
            table = rest_table(kind, 40)
            self.assertEqual(sum(table.values()), rest_series(kind, 40)[40])
            self.assertTrue(all(number > 0 for number in table.values()))
            self.assertEqual(list(table), sorted(table))

    def test_returned_dicts_are_not_shared(self):
        table = rest_table(TRIPLE, 7)
        table[2] = 0
        self.assertEqual(rest_table(TRIPLE, 7)[2], 2)

    def test_divisors(self):
        for told, kind in KINDS:
            numbers = rest_series(kind, 100)
            sums = [sum(part for part in range(1, j + 1) if j % part == 0 and is_let(told, part)) for j in range(1, 101)]
            for n in range(1, 101):
                self.assertEqual(n * numbers[n], sum(sums[j - 1] * numbers[n - j] for j in range(1, n + 1)))

    def test_factors(self):
        for told, kind in KINDS:
            product = (1,) + (0,) * 200
            for part in range(1, 201):
                if not is_let(told, part):
                    product = series_times(product, (1,) + (0,) * (part - 1) + (-1,) + (0,) * (200 - part))
            self.assertEqual(series_times(rest_series(kind, 200), pentagon_series(200)), product)


class RankRows(unittest.TestCase):
    def test_by_ranks(self):
        for told, kind in KINDS:
            bounds = Bounds(kind.modulus, kind.first, 1, 1)
            for row in RANKS:
                self.assertIs(is_rank_row(kind, row), has_ranks(told, row))
                self.assertIs(is_bounded(bounds, row), has_ranks(told, row))

    def test_listed_rows(self):
        for told, kind in KINDS:
            for size in range(FEW + 1):
                rows = sorted(row for row in rows_of_size(size) if has_ranks(told, row))
                self.assertEqual(rank_rows(kind, size), tuple(rows))

    def test_great_sizes(self):
        for told, size in (((2, 1), 40), ((2, 2), 40), ((3, 3), 40), ((4, 1), 40), ((8, 8), 28), ((6, 2), 33)):
            kind = Kind(*told)
            for rows, judge in ((rank_rows(kind, size), is_rank_row), (rest_rows(kind, size), is_rest_row)):
                self.assertEqual(len(rows), rest_series(kind, size)[size])
                self.assertEqual(sorted(set(rows)), list(rows))
                self.assertTrue(all(judge(kind, row) and sum(row) == size for row in rows))

    def test_turned_over(self):
        for (order, first), kind in KINDS:
            for row, told in RANKS.items():
                turned_is_one = is_rank_row(kind, turned_by_squares(row))
                self.assertIs(turned_is_one, all(first + 1 - 2 * order <= rank <= first - 2 for rank in told))

    def test_wider_kinds(self):
        for (order, first), kind in KINDS:
            for row in RANKS:
                if order < 8 and is_rank_row(kind, row):
                    self.assertTrue(is_rank_row(Kind(order + 1, first), row))
                    self.assertTrue(is_rank_row(Kind(order + 1, first + 1), row))

    def test_wide_enough(self):
        for (order, first), kind in KINDS:
            for size in range(FEW + 1):
                if size + 1 <= first <= 2 * order - size:
                    self.assertEqual(rank_rows(kind, size), tuple(sorted(rows_of_size(size))))

    def test_spans_and_kinds(self):
        for row, told in RANKS.items():
            self.assertEqual(rank_span(row), (min(told), max(told)) if told else None)
            self.assertEqual(rank_kinds(row), tuple(each for each in TOLD if has_ranks(each, row)))
        self.assertEqual(rank_kinds(()), tuple(TOLD))
        self.assertEqual(rank_span((200,) * 60), (140, 140))
        self.assertEqual(rank_kinds((200,)), ())
        self.assertEqual(rank_span((200, 199) + (1,) * 58), (140, 197))


class AsMany(unittest.TestCase):
    def test_all_three(self):
        for told, kind in KINDS:
            numbers = gap_series(kind, 200)
            for size in (0, 1, 40, 41, 200):
                self.assertEqual(rest_series(kind, size), numbers[:size + 1])
                self.assertEqual(rank_series(kind, size), numbers[:size + 1])
                self.assertIs(type(rest_series(kind, size)), tuple)
            for size in range(FEW + 1):
                self.assertEqual(len(rest_rows(kind, size)), numbers[size])

    def test_bounds(self):
        for call, most in (
            (rest_rows, 40), (rank_rows, 40), (rest_table, 40), (rest_series, 200), (rank_series, 200),
            (let_parts, 200),
        ):
            call(PAIR, most)
            for size in (-1, most + 1, True, None):
                with self.assertRaises(InvalidNumber) as caught:
                    call(PAIR, size)
                self.assertIs(caught.exception.given, size)
                with self.assertRaises(InvalidKind):
                    call((2, 2), size)

    def test_3000_rows_and_more(self):
        met = 0
        for told, kind in KINDS:
            for size, number in enumerate(rest_series(kind, 40)):
                if number > 3000:
                    for call in (rest_rows, rank_rows):
                        self.assertEqual(len(call(kind, size - 1)), rest_series(kind, size - 1)[-1])
                        with self.assertRaises(TooMany) as caught:
                            call(kind, size)
                        self.assertEqual(caught.exception.limit, 3000)
                    met += 1
                    break
        self.assertGreater(met, 20)


class NotTrue(unittest.TestCase):
    def test_numbers_of_parts(self):
        # The rest rows 1 1 and 4 of size 2 and 4 against the gap rows 2 and 4, 3 1.
        self.assertEqual(rest_table(PAIR, 2), {2: 1})
        self.assertEqual([series[2] for series in gap_table(PAIR, 2)], [0, 1])

    def test_rank_rows_put_together(self):
        for row in ((1,), (2, 1), (3, 1)):
            self.assertTrue(is_rank_row(PAIR, row))
            self.assertFalse(is_rank_row(PAIR, put_together(row, row)))


if __name__ == "__main__":
    unittest.main()

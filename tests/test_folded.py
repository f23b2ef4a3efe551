"""Promises [16.1] to [16.7]: paths with low peaks and the fold, held against words, peaks and rank rows."""

import itertools
import unittest

from hookstrips.errors import InvalidKind, InvalidOperation, InvalidRow, InvalidWalk, TooMany
from hookstrips.kinds.folded import gap_row_of, is_path, path_by_peaks, path_of, peaks_of, ranked, row_of_path
from hookstrips.kinds.gaps import Kind, gap_rows, is_gap_row
from hookstrips.kinds.rests import is_rank_row, rank_rows
from hookstrips.shape.rows import columns
from hookstrips.shape.words import closest_parts, word_of
from tests.samples import LONGEST, PAIR, TRIPLE, rows_to_size

TOLD = [(order, first) for order in range(2, 9) for first in range(1, order + 1)]
KINDS = [(told, Kind(*told)) for told in TOLD]
FEW = [(told, kind) for told, kind in KINDS if told[0] <= 4]
ROWS = rows_to_size(12)


def goes_on(told, path):
    """Whether a tuple of heights is a path of the kind, by the words of the document."""
    order, first = told
    if not path or path[0] != order - first or not all(0 <= height < order for height in path):
        return False
    for height, after in zip(path, path[1:]):
        if after - height not in (1, -1) and not height == after == 0:
            return False
    return len(path) == 1 or path[-1] == path[-2] + 1


def paths_of(told, many):
    """All paths of a kind with at most so many heights."""
    order, first = told
    found, latest = [], [(order - first,)]
    while latest:
        found += latest
        grown = []
        for path in latest:
            if len(path) < many:
                for after in (path[-1] - 1, path[-1] + 1, 0):
                    if 0 <= after < order and (after != 0 or path[-1] in (0, 1)) and path + (after,) not in grown:
                        grown.append(path + (after,))
        latest = grown
    return [path for path in found if goes_on(told, path)]


def heights_of(told, word):
    """The heights to which a word would lead, without a greatest one."""
    heights = [told[0] - told[1]]
    for letter in word:
        heights.append(heights[-1] + 1 if letter == "b" else max(heights[-1] - 1, 0))
    return tuple(heights)


def peaks_told(path):
    return tuple(
        (j, path[j]) for j in range(1, len(path))
        if path[j] > path[j - 1] and (j == len(path) - 1 or path[j + 1] <= path[j])
    )


class Paths(unittest.TestCase):
    def test_which_tuples_are_paths(self):
        for told, kind in FEW:
            for many in range(6):
                for path in itertools.product(range(-1, told[0] + 1), repeat=many):
                    self.assertIs(is_path(kind, path), goes_on(told, path))

    def test_other_values(self):
        for value in (
            None, 1, "", "1", [], [1], {}, (1.0,), (None,), ("1",), (True,), (1, False, 1), ((1,),), (1, 2, None),
            (LONGEST,), (1, (2,)),
        ):
            self.assertIs(is_path(TRIPLE, value), False)
            for call in (row_of_path, peaks_of):
                with self.assertRaises(InvalidWalk):
                    call(TRIPLE, value)
        for kind in (None, (3, 2), 3):
            with self.assertRaises(InvalidKind):
                is_path(kind, (1,))

    def test_401_heights_and_402(self):
        for told, kind in KINDS:
            start = told[0] - told[1]
            down = tuple(range(start, 0, -1))
            longest = down + (0,) * (400 - start) + (1,)
            self.assertEqual(len(longest), 401)
            self.assertIs(is_path(kind, longest), True)
            # This row has a part that no row has that is passed.
            self.assertEqual(row_of_path(kind, longest), (400,))
            self.assertEqual(peaks_of(kind, longest), ((400, 1),))
            self.assertIs(is_path(kind, down + (0,) * (401 - start) + (1,)), False)
            self.assertIs(is_path(kind, (start,)), True)
            self.assertEqual(row_of_path(kind, (start,)), ())

    def test_paths_of_gap_rows(self):
        for told, kind in KINDS:
            for row in ROWS:
                word = word_of(row)
                heights = heights_of(told, word)
                self.assertIs(is_gap_row(kind, row), goes_on(told, heights))
                self.assertEqual(max(heights), max(told[0] - told[1] + row.count(1), closest_parts(row)))
                if is_gap_row(kind, row):
                    self.assertEqual(path_of(kind, row), heights)
                    self.assertEqual(row_of_path(kind, heights), row)
                else:
                    for call in (path_of, ranked):
                        with self.assertRaises(InvalidOperation):
                            call(kind, row)

    def test_all_short_paths(self):
        for told, kind in FEW:
            for path in paths_of(told, 9):
                row = row_of_path(kind, path)
                self.assertTrue(is_gap_row(kind, row))
                word = "".join("b" if after > height else "a" for height, after in zip(path, path[1:]))
                self.assertEqual(word_of(row), word)
                self.assertEqual(path_of(kind, row), path)
                self.assertEqual(sum(place for place, _ in peaks_of(kind, path)), sum(row))

    def test_400_letters_and_more(self):
        self.assertEqual(len(path_of(TRIPLE, (200, 200))), 401)
        self.assertEqual(len(path_of(PAIR, (200, 150, 1))), 201)
        for kind, row in ((Kind(4, 1), (200, 200, 199)), (Kind(5, 3), (101, 100, 100, 100))):
            for call in (path_of, ranked):
                with self.assertRaises(TooMany) as caught:
                    call(kind, row)
                self.assertEqual(caught.exception.limit, 400)
        for row in ((201,), (1, 2), [1], None):
            with self.assertRaises(InvalidRow):
                path_of(TRIPLE, row)


class Peaks(unittest.TestCase):
    def test_there_and_back(self):
        for told, kind in KINDS:
            for path in paths_of(told, 8):
                self.assertEqual(peaks_of(kind, path), peaks_told(path))
                self.assertEqual(path_by_peaks(kind, peaks_told(path)), path)

    def test_all_peaks(self):
        for told, kind in FEW:
            paths = {peaks_told(path): path for path in paths_of(told, 9)}
            for many in range(4):
                for places in itertools.combinations(range(1, 9), many):
                    for heights in itertools.product(range(1, told[0]), repeat=many):
                        peaks = tuple(zip(places, heights))
                        path = path_by_peaks(kind, peaks)
                        self.assertEqual(path, paths.get(peaks))
                        self.assertIs(path is not None, self.leads(told, peaks))

    def leads(self, told, peaks):
        """Whether a path leads from each peak to the next one, by [16.6]."""
        place, height = 0, told[0] - told[1]
        for at, (further, goal) in enumerate(peaks):
            gap, between = further - place, abs(height - goal)
            ways = (gap - between) % 2 == 0 and gap >= between + 2 or gap >= height + goal + 1
            if not ways and not (at == 0 and goal - height == gap):
                return False
            place, height = further, goal
        return True

    def test_far_peaks(self):
        for told, kind in KINDS:
            top = told[0] - 1
            path = path_by_peaks(kind, ((400, top),))
            self.assertEqual((len(path), peaks_of(kind, path)), (401, ((400, top),)))
            self.assertIsNone(path_by_peaks(kind, ((399, top), (400, top))))
            self.assertEqual(path_by_peaks(kind, ()), (told[0] - told[1],))
        alternating = tuple((place, 1) for place in range(2, 401, 2))
        self.assertEqual(path_by_peaks(Kind(2, 2), alternating), (0,) + (0, 1) * 200)
        self.assertIsNone(path_by_peaks(PAIR, tuple((place, 1) for place in range(1, 401))))

    def test_what_are_no_peaks(self):
        for peaks in (
            None, [], ((0, 1),), ((401, 1),), ((1, 0),), ((1, 3),), ((2, 1), (2, 1)), ((3, 1), (2, 1)), ((1, True),),
            ((True, 1),), ((1,),), ((1, 1, 1),), ([1, 1],), (1, 1), ((1, None),), ((10 ** 60, 1),),
        ):
            with self.assertRaises(InvalidOperation):
                path_by_peaks(TRIPLE, peaks)
        for told, kind in KINDS:
            with self.assertRaises(InvalidOperation):
                path_by_peaks(kind, ((20, told[0]),))


class Fold(unittest.TestCase):
    def test_columns(self):
        for told, kind in KINDS:
            order, first = told
            for size in range(11):
                for row in gap_rows(kind, size):
                    told_columns = []
                    for j, y in reversed(peaks_told(heights_of(told, word_of(row)))):
                        found = []
                        for r in range(-60, 61):
                            doubled = 2 * r - 2 * order - 1 + 2 * first
                            if (r + j) % 2 == 1 and doubled in (2 * y - 1, 1 - 2 * y):
                                found.append(r)
                        self.assertEqual(len(found), 1)
                        self.assertTrue(2 - first <= found[0] <= 2 * order - first - 1)
                        a = (j - 1 + found[0]) // 2
                        told_columns.append((a, a - found[0]))
                    self.assertEqual(columns(ranked(kind, row)), tuple(told_columns))

    def test_one_to_one(self):
        for told, kind in KINDS:
            for size in range(15):
                rows = gap_rows(kind, size)
                led = [ranked(kind, row) for row in rows]
                self.assertEqual(tuple(sorted(led)), rank_rows(kind, size))
                self.assertEqual(tuple(gap_row_of(kind, row) for row in led), rows)

    def test_great_rows(self):
        for told, size in (((2, 1), 40), ((3, 2), 35), ((8, 8), 26)):
            kind = Kind(*told)
            led = sorted(ranked(kind, row) for row in gap_rows(kind, size))
            self.assertEqual(tuple(led), rank_rows(kind, size))
        for kind, row in ((PAIR, (60,) * 60), (Kind(8, 1), (60,) * 52), (TRIPLE, (58,) * 56)):
            self.assertTrue(is_rank_row(kind, row))
            other = gap_row_of(kind, row)
            self.assertTrue(is_gap_row(kind, other))
            self.assertEqual(sum(other), sum(row))
            self.assertEqual(ranked(kind, other), row)

    def test_rows_that_are_long_or_wide(self):
        row = ranked(TRIPLE, (200, 200))
        self.assertEqual(sum(row), 400)
        # What is made can have more than 60 parts.
        self.assertGreater(len(row), 60)
        with self.assertRaises(InvalidRow):
            gap_row_of(TRIPLE, row)
        # The rank row with the furthest peak: no row that is passed has one at a place above 400.
        row = gap_row_of(Kind(8, 1), (74,) * 60)
        self.assertEqual((len(row), row[0], sum(row)), (66, 133, 74 * 60))
        self.assertTrue(is_gap_row(Kind(8, 1), row))
        with self.assertRaises(InvalidRow):
            ranked(Kind(8, 1), row)

    def test_other_rows(self):
        for told, kind in KINDS:
            for row in ROWS:
                if not is_rank_row(kind, row):
                    with self.assertRaises(InvalidOperation):
                        gap_row_of(kind, row)
        for row in ((1, 2), (201,), (1,) * 61, [1], None, (True,)):
            for call in (gap_row_of, ranked):
                with self.assertRaises(InvalidRow):
                    call(TRIPLE, row)
                with self.assertRaises(InvalidKind):
                    call((3, 2), row)


class NotTrue(unittest.TestCase):
    def test_numbers_of_parts(self):
        self.assertEqual(ranked(PAIR, (3,)), (2, 1))

    def test_two_kinds(self):
        self.assertEqual(ranked(TRIPLE, (5, 2, 2)), (5, 4))
        self.assertEqual(ranked(Kind(3, 3), (5, 2, 2)), (3, 3, 2, 1))


if __name__ == "__main__":
    unittest.main()

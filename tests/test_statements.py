"""Promises [0.1], [0.2] over the whole program, and the main statements [0.18] to [0.22]."""

import unittest

from hookstrips.diagonal.bounds import Bounds, bounded_poly, has_window, is_bounded
from hookstrips.diagonal.sums import sum_poly, sum_terms
from hookstrips.endless.grown import does_stay, grown_series, stays_from
from hookstrips.kinds.cut import rows_with_sides
from hookstrips.kinds.folded import path_of, peaks_of, ranked, row_of_path
from hookstrips.kinds.gaps import Kind, gap_rows, gap_table
from hookstrips.kinds.marks import class_for, classes_to, relative_heights, rows_of_class
from hookstrips.kinds.rests import rank_rows, rest_rows, rest_table
from hookstrips.shape.boxes import Box
from hookstrips.shape.gauss import gaussian
from hookstrips.shape.ranks import rank_word
from hookstrips.shape.words import depth_of, drop_of, row_of_word, word_of, word_size
from hookstrips.use.ledger import Ledger
from hookstrips.walled.walks import Strip, walks_of_sum, walks_poly
from tests.calls import CALLS, ledger_of_two
from tests.samples import EIGHT_DEEP, OBJECTS, TRIPLE, rows_to_size, turned_by_squares, words_to
from tests.test_arguments import result_of, right_values

ROWS = rows_to_size(12)
KINDS = [Kind(order, first) for order in range(2, 9) for first in range(1, order + 1)]
THINGS = (Box(2, 3), Bounds(5, 2, 1, 1), Strip(5), Kind(3, 2), Ledger())


def is_plain(result):
    """Whether a result has tuples alone, and dicts with ascending keys."""
    if isinstance(result, tuple):
        return type(result) is tuple and all(is_plain(each) for each in result)
    if isinstance(result, dict):
        return list(result) == sorted(result) and all(is_plain(each) for each in result.values())
    return result is None or type(result) in (int, str, bool) or isinstance(result, (Box, Bounds, Strip, Kind))


class Conventions(unittest.TestCase):
    def test_results_are_tuples(self):
        for call, places in CALLS:
            result = result_of(call, right_values(places))
            with self.subTest(call=call.__name__):
                self.assertTrue(is_plain(tuple(result) if isinstance(result, list) else result))

    def test_equal_calls_return_equal_results(self):
        for call, places in CALLS:
            with self.subTest(call=call.__name__):
                self.assertEqual(result_of(call, right_values(places)), result_of(call, right_values(places)))

    def test_only_ledgers_are_iterated_over(self):
        for thing in THINGS[:-1]:
            for call in (iter, list, tuple, len):
                with self.assertRaises(TypeError):
                    call(thing)
        self.assertEqual(list(ledger_of_two()), ["a: 3 1", "b: 2 2 1"])

    def test_equal_and_not_equal(self):
        values = [None, True, False, 0, 5, "", "box 2 wide, 3 high", [], {}, (), (2, 3), EIGHT_DEEP, *OBJECTS, *THINGS]
        for thing in THINGS:
            self.assertIs(thing == thing, True)
            for value in values:
                self.assertIs(type(thing == value), bool)
                self.assertIs(thing != value, not thing == value)
                if not isinstance(value, type(thing)):
                    self.assertIs(thing == value, False)


class Words(unittest.TestCase):
    def test_one_word_for_each_row(self):
        for row in ROWS:
            word = word_of(row)
            self.assertEqual(row_of_word(word), row)
            self.assertEqual(word_size(word), sum(row))
            self.assertEqual((word.count("b"), depth_of(word)), (len(row), row.count(1)))
            self.assertEqual(drop_of(word), max([row.count(j) + row.count(j + 1) for j in range(1, 13)]))
        for word in words_to(8):
            self.assertEqual(word_of(row_of_word(word)), word)


class Boxes(unittest.TestCase):
    def test_sums_count_bounded_rows(self):
        for bounds in (Bounds(5, 2, 1, 1), Bounds(7, 3, 2, 2), Bounds(6, 4, 1, 3), Bounds(4, 1, 2, 1)):
            for box in (Box(4, 4), Box(3, 5), Box(5, 4), Box(2, 3)):
                if has_window(bounds, box):
                    self.assertEqual(sum_poly(bounds, box), bounded_poly(bounds, box))
                if has_window(bounds, box) and bounds.alpha + bounds.beta == bounds.modulus - 1:
                    first, steps, last, goal = walks_of_sum(bounds, box)
                    poly = walks_poly(Strip(bounds.modulus), first, steps, last, goal)
                    self.assertEqual(sum_poly(bounds, box), poly)

    def test_growing_boxes(self):
        bounds = Bounds(7, 3, 2, 2)
        side = stays_from(bounds, 6)
        for box in (Box(side, side), Box(side + 2, side), Box(12, 13)):
            self.assertTrue(has_window(bounds, box) and does_stay(bounds, box, 6))
            self.assertEqual(sum_poly(bounds, box)[:7], grown_series(bounds, 6))


class Lots(unittest.TestCase):
    def test_gap_rows_paths_rank_rows_and_rest_rows(self):
        for kind in KINDS:
            bounds = Bounds(kind.modulus, kind.first, 1, 1)
            for size in range(12):
                rows = gap_rows(kind, size)
                paths = [path_of(kind, row) for row in rows]
                self.assertEqual(tuple(row_of_path(kind, path) for path in paths), rows)
                self.assertEqual(len(set(paths)), len(rows))
                led = [ranked(kind, row) for row in rows]
                self.assertTrue(all(is_bounded(bounds, row) and sum(row) == size for row in led))
                self.assertEqual(tuple(sorted(led)), rank_rows(kind, size))
                self.assertEqual(len(rest_rows(kind, size)), len(rows))

    def test_classes(self):
        for order in range(2, 6):
            kind = Kind(order, order)
            for size in (5, 10):
                found = []
                for numbers in classes_to(kind, size):
                    rows = rows_of_class(kind, numbers, size)
                    found += rows
                    sides = tuple(number for number in numbers if number)
                    self.assertEqual(len(rows), len(rows_with_sides(sides, size)))
                self.assertEqual(tuple(sorted(found)), gap_rows(kind, size))

    def test_marks_tell_relative_heights(self):
        for row in gap_rows(TRIPLE, 14):
            path = path_of(TRIPLE, row)
            heights = relative_heights(TRIPLE, path)
            one, other = class_for(TRIPLE, row)
            self.assertEqual((heights.count(1), heights.count(2)), (one - other, other))
            self.assertEqual(sum(place for place, _ in peaks_of(TRIPLE, path)), 14)


class NoneIsTrue(unittest.TestCase):
    def test_the_word_of_a_row_is_not_its_rank_word(self):
        self.assertEqual((word_of((3, 1)), rank_word((3, 1))), ("bab", "aabb"))

    def test_gap_rows_and_rest_rows_for_numbers_of_parts(self):
        kind = Kind(2, 2)
        gaps = {many: series[7] for many, series in enumerate(gap_table(kind, 7)) if series[7]}
        self.assertEqual((gaps, rest_table(kind, 7)), ({1: 1, 2: 2}, {2: 1, 4: 1, 7: 1}))

    def test_coefficients_of_terms(self):
        bounds, box = Bounds(5, 2, 1, 1), Box(4, 4)
        least = [min(sign * number for number in gaussian(top, low)) for sign, _, top, low in sum_terms(bounds, box)]
        self.assertLess(min(least), 0)

    def test_turned_rows_have_words_of_unlike_drops(self):
        row = (3,)
        self.assertEqual((drop_of(word_of(row)), drop_of(word_of(turned_by_squares(row)))), (1, 3))


if __name__ == "__main__":
    unittest.main()

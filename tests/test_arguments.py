"""Promises [0.1] to [0.5] and [0.7]: which arguments each function refuses, in which order, and with what error."""

import copy
import inspect
import itertools
import unittest

from hookstrips.base import numbers, polys
from hookstrips.diagonal import bounds as bounding, steps, sums
from hookstrips.endless import grown, series
from hookstrips.errors import (
    InvalidBounds, InvalidBox, InvalidKind, InvalidNumber, InvalidOperation, InvalidPoly, InvalidRow, InvalidWalk,
    InvalidWord, NothingToUndo, Refused, TooMany,
)
from hookstrips.kinds import cut, folded, gaps, marks, rests
from hookstrips.shape import boxes, gauss, ranks, rows, words
from hookstrips.shape.boxes import Box
from hookstrips.use.ledger import is_pledge
from hookstrips.walled import walks
from tests.calls import CALLS, ledger_of_two
from tests.samples import (
    EIGHT_DEEP, FIVE, FOUR, NO_INTEGERS, NO_INTEGERS_INSIDE, NO_OBJECTS, NO_STRINGS, NO_TUPLES, PAIR, SEVEN, STRIP,
    TRIPLE,
)


def right_values(places):
    return [(1, 1) if place is None else place.right for place in places]


def result_of(call, values):
    """The result, that of a generator as a list."""
    result = call(*values)
    return list(result) if inspect.isgenerator(result) else result


class Arguments(unittest.TestCase):
    def refuses(self, call, values, place, value):
        before = copy.deepcopy([given for given in values if isinstance(given, (list, dict))])
        with self.subTest(call=call.__name__, values=str(values)[:200]):
            with self.assertRaises(place.error) as caught:
                result_of(call, values)
            self.assertIs(type(caught.exception), place.error)
            self.assertTrue(place.is_kept(caught.exception, value))
            self.assertEqual([given for given in values if isinstance(given, (list, dict))], before)

    def test_each_wrong_value(self):
        for call, places in CALLS:
            for at, place in enumerate(places):
                for value in place.wrong if place else ():
                    values = right_values(places)
                    values[at] = value
                    self.refuses(call, values, place, value)

    def test_the_first_one_of_two_wrong_values(self):
        for call, places in CALLS:
            for at, behind in itertools.combinations(range(len(places)), 2):
                if places[at] is None or places[behind] is None:
                    continue
                for value, further in itertools.product(places[at].wrong, places[behind].wrong):
                    values = right_values(places)
                    values[at], values[behind] = value, further
                    self.refuses(call, values, places[at], value)

    def test_edges_are_accepted(self):
        for call, places in CALLS:
            for at, place in enumerate(places):
                for value in place.edges if place else ():
                    values = right_values(places)
                    values[at] = value
                    with self.subTest(call=call.__name__, at=at, value=str(value)[:50]):
                        try:
                            first = result_of(call, values)
                        except (InvalidOperation, TooMany, Refused, NothingToUndo) as error:
                            # These come behind the check of the arguments.
                            self.assertIsNot(type(error), place.error)
                        else:
                            self.assertEqual(first, result_of(call, values))

    def test_generators_raise_when_the_first_result_is_asked_for(self):
        for call, places in CALLS:
            values = right_values(places)
            if not inspect.isgeneratorfunction(call):
                self.assertFalse(inspect.isgenerator(call(*values)), call.__name__)
                continue
            for at, place in enumerate(places):
                values = right_values(places)
                values[at] = place.wrong[0]
                made = call(*values)
                with self.assertRaises(place.error):
                    next(made)

    def test_which_are_generators(self):
        told = [call for call, _ in CALLS if inspect.isgeneratorfunction(call)]
        self.assertEqual(told, [boxes.box_rows, words.steps_of, walks.walks])


class ErrorsBehindThen(unittest.TestCase):
    def raises(self, error, kept, call, *values):
        with self.subTest(call=call.__name__, values=values):
            with self.assertRaises(error) as caught:
                result_of(call, values)
            self.assertIs(type(caught.exception), error)
            if kept is not None:
                self.assertEqual(list(vars(caught.exception).values()), [kept])

    def test_numbers_polynomials_and_rows(self):
        self.raises(InvalidNumber, 0, rows.hook_difference, (2, 1), 5, 0)
        self.raises(InvalidNumber, 401, polys.over_factor, (1, 1), 401)
        self.raises(InvalidPoly, None, polys.multiplied, (1,) * 4000, (1, 0))
        self.raises(InvalidNumber, 4001, polys.shifted, (1,) * 4000, 4001)

    def test_boxes(self):
        neighbours = (boxes.greater_rows, boxes.lesser_rows)
        for call in (boxes.rim_of, boxes.place_of, boxes.rest_of, *neighbours, ranks.box_word):
            self.raises(InvalidOperation, None, call, Box(2, 3), (3,))
            self.raises(InvalidOperation, None, call, Box(2, 3), (1, 1, 1, 1))
            self.raises(InvalidRow, None, call, Box(2, 3), (1, 2, 1, 1))
            self.raises(InvalidBox, None, call, (2, 3), (3,))
        self.raises(TooMany, 5000, boxes.box_rows, Box(40, 40))

    def test_gaussian_numbers(self):
        self.raises(InvalidNumber, 201, gauss.gaussian_by_rows, 80, 201)
        self.raises(InvalidNumber, 81, gauss.gaussian_by_rows, 81, 40)
        self.raises(TooMany, 5000, gauss.gaussian_by_rows, 80, 40)

    def test_words(self):
        long = (101, 100, 100, 100)
        for call in (words.word_of, words.steps_of, ranks.uncrossed):
            self.raises(TooMany, 400, call, long)
            self.raises(InvalidRow, None, call, long[::-1])
        self.raises(TooMany, 400, ranks.crossed_often, long, -1)
        self.raises(InvalidNumber, -21, ranks.crossed_often, long, -21)
        self.raises(InvalidRow, None, words.lowered, (0,))
        self.raises(InvalidOperation, None, words.lowered, ())

    def test_bounds_and_sums(self):
        wide = Box(40, 40)
        for call in (bounding.bounded_rows, bounding.bounded_poly):
            self.raises(TooMany, 5000, call, FIVE, wide)
            self.raises(InvalidBounds, None, call, wide, FIVE)
            self.raises(InvalidBox, None, call, FIVE, FIVE)
        for call in (sums.sum_poly, sums.sum_number):
            self.raises(Refused, ("window",), call, FIVE, Box(4, 1))
            self.raises(InvalidBox, None, call, FIVE, (4, 1))

    def test_steps(self):
        self.raises(InvalidBox, None, steps.by_steps, 5, 2, 0, 0, None)
        self.raises(InvalidOperation, None, steps.by_steps, 5, 2, 0, 0, Box(13, 13))
        self.raises(TooMany, 12, steps.by_steps, 5, 2, 0, 1, Box(13, 1))
        for call in (steps.column_rule, steps.row_rule):
            self.raises(InvalidBox, None, call, 5, 2, 0, 0, (0, 0))
            self.raises(InvalidNumber, 6, call, 5, 2, 0, 6, Box(0, 0))
            self.raises(InvalidOperation, None, call, 5, 2, 0, 0, FOUR)
        for call, why in ((steps.column_off, "column"), (steps.column_on, "column"), (steps.row_off, "row")):
            self.raises(InvalidRow, None, call, FIVE, FOUR, (0,))
            self.raises(Refused, (why,), call, FIVE, FOUR, (9, 9))
            self.raises(InvalidOperation, None, call, SEVEN, FOUR, (9, 9))
        self.raises(Refused, ("row",), steps.row_on, FIVE, FOUR, (9, 9))
        self.raises(InvalidOperation, None, steps.row_on, SEVEN, FOUR, (9, 9))
        self.raises(InvalidBox, None, steps.split_by_column, FIVE, 4)
        self.raises(InvalidBox, None, steps.split_by_row, FIVE, 4)

    def test_walks(self):
        self.raises(InvalidNumber, 5, walks.walks, STRIP, 1, 60, 4, 5)
        self.raises(TooMany, 2000, walks.walks, STRIP, 2, 60, 2, 3)
        self.raises(InvalidNumber, 4, walks.walk_at, STRIP, 2, 60, 2, 4, -1)
        self.raises(InvalidNumber, -1, walks.walk_at, STRIP, 2, 60, 2, 3, -1)
        self.raises(InvalidNumber, 4, walks.sum_of_walks, STRIP, 2, 3, 2, 4)
        self.raises(InvalidOperation, None, walks.sum_of_walks, STRIP, 2, 3, 2, 3)
        self.raises(InvalidBox, None, walks.walks_of_sum, FIVE, None)
        self.raises(InvalidOperation, None, walks.walks_of_sum, FIVE, Box(40, 0))
        self.raises(Refused, ("window",), walks.walks_of_sum, bounding.Bounds(5, 2, 2, 2), Box(40, 0))
        self.raises(InvalidWalk, None, walks.place_of, STRIP, (1, 2) * 32)

    def test_series_and_grown_boxes(self):
        self.raises(InvalidNumber, 401, series.rows_by_listing, 401)
        self.raises(TooMany, 20, series.rows_by_listing, 400)
        self.raises(InvalidPoly, None, series.series_over, (), (2,))
        self.raises(InvalidPoly, None, series.series_over, (1,), (2,) * 402)
        for first in (0, 2, -1):
            self.raises(InvalidOperation, None, series.series_over, (1,), (first, 1))
        self.raises(InvalidNumber, 1001, grown.grown_product, SEVEN, 1001)
        self.raises(InvalidBounds, None, grown.grown_product, "SEVEN", 1001)
        self.raises(Refused, ("product",), grown.grown_product, SEVEN, 1000)
        self.raises(InvalidBox, None, grown.does_stay, FIVE, FIVE, 21)

    def test_gap_rows(self):
        eight = gaps.Kind(8, 8)
        self.raises(InvalidNumber, 61, gaps.gap_rows, eight, 61)
        self.raises(TooMany, 3000, gaps.gap_rows, eight, 60)
        self.raises(InvalidNumber, 61, gaps.gap_row_at, eight, 61, -1)
        self.raises(InvalidNumber, -1, gaps.gap_row_at, eight, 60, -1)
        self.raises(InvalidRow, None, gaps.gap_place, PAIR, (1, 2))
        self.raises(InvalidOperation, None, gaps.gap_place, PAIR, (2, 1))
        self.raises(InvalidOperation, None, gaps.gap_place, PAIR, (61,))
        for call in (gaps.finite_sum, gaps.finite_parts):
            self.raises(InvalidNumber, 41, call, TRIPLE, 41)
            self.raises(InvalidOperation, None, call, TRIPLE, 40)
            self.raises(InvalidKind, None, call, (2, 2), 41)

    def test_rest_rows_and_rank_rows(self):
        eight = gaps.Kind(8, 8)
        for call in (rests.rest_rows, rests.rank_rows):
            self.raises(InvalidNumber, 41, call, eight, 41)
            self.raises(TooMany, 3000, call, eight, 40)
            self.raises(InvalidKind, None, call, (8, 8), 41)

    def test_paths_and_classes(self):
        far = (200, 200, 199)
        for call in (folded.path_of, folded.ranked):
            self.raises(InvalidRow, None, call, TRIPLE, far[::-1])
            self.raises(InvalidOperation, None, call, TRIPLE, far)
            self.raises(TooMany, 400, call, gaps.Kind(4, 1), far)
        self.raises(InvalidRow, None, folded.gap_row_of, PAIR, (1, 2))
        self.raises(InvalidOperation, None, folded.gap_row_of, PAIR, (1, 1))
        self.raises(InvalidOperation, None, marks.class_for, PAIR, (1, 1))
        self.raises(InvalidOperation, None, marks.class_series, PAIR, (1, 1), 101)
        self.raises(InvalidNumber, 101, marks.class_series, PAIR, (1,), 101)
        self.raises(InvalidNumber, 31, marks.rows_of_class, gaps.Kind(8, 8), (0,) * 7, 31)
        self.raises(TooMany, 3000, marks.rows_of_class, gaps.Kind(8, 8), (0,) * 7, 30)


class JudgedValues(unittest.TestCase):
    def test_every_value_is_accepted(self):
        values = NO_INTEGERS + NO_TUPLES + NO_INTEGERS_INSIDE + NO_STRINGS + NO_OBJECTS + [[EIGHT_DEEP], {1: [()]}]
        judges = (
            numbers.is_integer, numbers.is_name, polys.is_poly, rows.is_row, words.is_word,
            lambda value: rows.has_square((200,) * 60, value), lambda value: boxes.is_rim(FOUR, value),
            lambda value: ranks.is_box_word(FOUR, value), lambda value: bounding.is_bounded(FIVE, value),
            lambda value: walks.is_walk(STRIP, value), lambda value: value in FOUR, lambda value: FOUR == value,
            lambda value: FIVE == value, lambda value: STRIP == value, lambda value: PAIR == value,
            lambda value: gaps.is_gap_row(gaps.Kind(8, 8), value), cut.are_pieces,
            lambda value: rests.is_rest_row(TRIPLE, value), lambda value: rests.is_rank_row(TRIPLE, value),
            lambda value: folded.is_path(TRIPLE, value), lambda value: marks.is_class(TRIPLE, value), is_pledge,
            lambda value: value in ledger_of_two(), lambda value: ledger_of_two() == value,
        )
        for value in values + [(1,) * 5000, "a" * 4000, "b" * 4000, [[]] * 100]:
            for at, judge in enumerate(judges):
                with self.subTest(at=at, value=str(value)[:50]):
                    self.assertIs(type(judge(value)), bool)

    def test_true_is_not_1(self):
        for judged in (
            numbers.is_integer(True), polys.is_poly((True,)), rows.is_row((True,)), rows.has_square((1,), (True, 1)),
            (True,) in FOUR, (2, True) in FOUR, bounding.is_bounded(FIVE, (True,)),
            bounding.is_bounded(FIVE, (2, True)), walks.is_walk(STRIP, (True, 2)), walks.is_walk(STRIP, (2, True)),
            gaps.is_gap_row(PAIR, (True,)), gaps.is_gap_row(PAIR, (3, True)), cut.are_pieces(((True, ()),)),
            cut.are_pieces(((1, (True,)),)), rests.is_rest_row(TRIPLE, (True,)), rests.is_rank_row(TRIPLE, (True,)),
            folded.is_path(TRIPLE, (True,)), folded.is_path(TRIPLE, (1, False, 1)), marks.is_class(TRIPLE, (1, False)),
            marks.is_class(TRIPLE, (True, True)), is_pledge(("size", "a", True)), is_pledge(("gap", "a", 2, True)),
        ):
            self.assertIs(judged, False)

    def test_other_parameters_are_not_free(self):
        for call, values, error in (
            (boxes.is_rim, ((4, 4), None), InvalidBox), (ranks.is_box_word, (None, None), InvalidBox),
            (bounding.is_bounded, (FOUR, None), InvalidBounds), (walks.is_walk, (5, None), InvalidWalk),
            (words.raised, ((1,), "c"), InvalidWord), (gaps.is_gap_row, ((2, 2), ()), InvalidKind),
            (grown.does_stay, (FIVE, None, 4), InvalidBox), (rests.is_rest_row, (3, ()), InvalidKind),
            (rests.is_rank_row, (None, ()), InvalidKind), (folded.is_path, (FIVE, (1,)), InvalidKind),
            (marks.is_class, ((3, 2), (0, 0)), InvalidKind),
        ):
            with self.assertRaises(error):
                call(*values)


if __name__ == "__main__":
    unittest.main()

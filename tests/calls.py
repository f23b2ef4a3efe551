"""Each function with what its parameters take; None is a parameter that takes every value."""

from hookstrips.base import numbers, polys
from hookstrips.diagonal import bounds as bounding, steps, sums
from hookstrips.endless import grown, series as endless
from hookstrips.errors import InvalidOperation, InvalidPoly
from hookstrips.kinds import cut, folded, gaps, marks, rests
from hookstrips.shape import boxes, gauss, ranks, rows, words
from hookstrips.use.ledger import Ledger
from hookstrips.walled import walks
from tests.places import (
    ascending_parts, bounds, box, class_numbers, column_pairs, goal, integer, kind, known_name, known_pledge, letter,
    letters_of_four, listing, new_name, new_names, path, peaks, pieces, pledge, poly, row, series, sides, strip, text,
    walk, word,
)
from tests.samples import FIVE, FOUR, LONGEST, PAIR, SEVEN, TRIPLE

LISTED = listing((3, -1), 60, InvalidOperation)
SQUARE_SIDE = integer(2, 1, 200)
BOXES = (boxes.Box(0, 0), boxes.Box(0, 40), boxes.Box(40, 0))
ANY_BOX = box(FOUR, BOXES + (boxes.Box(40, 40),))
TOP = integer(6, 0, 80)
LOW = integer(2, -200, 200)
LEAST = integer(3, 0, 40)
MODULUS = integer(7, 2, 17)
FIRST = integer(1, 1, 6)
SUMMED = (MODULUS, FIRST, integer(1, 0, 7, (0, 6)), integer(1, 0, 6), ANY_BOX)
BEGIN = integer(2, 1, 4, (2, 4))
STEPS = integer(4, 0, 60)
LAST = integer(2, 1, 4, (2, 4))
WALKS = (strip(), BEGIN, STEPS, LAST, goal(3, 2))
WALK = walk((2, 1, 2, 3))
FAR = integer(6, 0, 400)
TRIPLE_PRODUCT = (integer(5, 2, 400, (3, 400)), integer(2, 1, 4), FAR)
ORDER = integer(3, 2, 8)
GROWN = (bounds(), integer(6, 0, 1000))
STAYED = integer(6, 0, 20)
GAPS_LISTED = integer(9, 0, 60)
GREATEST = integer(4, 0, 40)
REST_LISTED = integer(6, 0, 40)
PATH = path((1, 0, 1, 0, 1, 2))
OF_TRIPLE = kind(TRIPLE, ())
NUMBERS = class_numbers((2, 1))


def ledger_of_two():
    """A ledger with the names a and b, a pledge, two changes that can be taken back, and one to do again."""
    ledger = Ledger()
    ledger.put("a", (3, 1))
    ledger.put("b", (2, 2, 1))
    ledger.demand(("size", "a", 4))
    ledger.cross("b")
    ledger.undo()
    return ledger


def method(name, keyword=None):
    """The call of a method on such a ledger, by position or with one keyword."""
    def call(*values):
        asked = getattr(ledger_of_two(), name)
        return asked(*values) if keyword is None else asked(**{keyword: values[0]})
    call.__name__ = name
    return call


CALLS = (
    (numbers.binomial, (integer(6, 0, 1000), integer(2))),
    (numbers.binomials, (integer(6, 0, 1000),)),
    (numbers.pentagonal, (integer(6),)),
    (numbers.pentagonal_root, (integer(6),)),
    (numbers.modulo_of, (integer(6), integer(5, 1, 1000))),
    (numbers.list_text, (LISTED,)),
    (numbers.numbers_of_text, (text("1 2"),)),
    (polys.poly_of, (listing((1, 0), 4000, InvalidPoly),)),
    (polys.degree_of, (poly((1, 2)),)),
    (polys.coefficient, (poly((1, 2)), integer(1, 0))),
    (polys.added, (poly((1, 2)), poly((3,)))),
    (polys.less, (poly((1, 2)), poly((3,)))),
    (polys.multiplied, (poly((1, 2)), poly((3,)))),
    (polys.shifted, (poly((1, 2)), integer(3, 0, 4000))),
    (polys.scaled, (poly((1, 2)), integer(3))),
    (polys.at_one, (poly((1, 2)),)),
    (polys.at_minus_one, (poly((1, 2)),)),
    (polys.cut, (poly((1, 2)), integer(3, 0, 1000))),
    (polys.times_factor, (poly((1, 2)), integer(3, 1, 400))),
    (polys.over_factor, (poly((1, 0, 0, -1)), integer(3, 1, 400))),
    (polys.over_factors_to, (poly((1, 2)), integer(2, 0, 400), integer(4, 0, 1000))),
    (polys.is_balanced, (poly((1, 2)),)),
    (polys.is_peaked, (poly((1, 2)),)),
    (rows.size_of, (row((2, 1)),)),
    (rows.turned, (row((2, 1)),)),
    (rows.parts_of, (row((2, 1)), integer(1, 1, 200))),
    (rows.has_square, (row((2, 1)), None)),
    (rows.hook_difference, (row((2, 2)), SQUARE_SIDE, SQUARE_SIDE)),
    (rows.squares_on, (row((2, 1)), integer(0, -200, 200))),
    (rows.hook_differences, (row((2, 1)), integer(0, -200, 200))),
    (rows.ranks, (row((2, 1)),)),
    (rows.columns, (row((2, 1)),)),
    (rows.row_of_columns, (column_pairs(((1, 1),)),)),
    (rows.put_together, (row((2, 1)), row((1,)))),
    (rows.is_inside, (row((2, 1)), row((1,)))),
    (boxes.Box, (integer(4, 0, 40), integer(3, 0, 40))),
    (boxes.box_rows, (ANY_BOX,)),
    (boxes.rim_of, (ANY_BOX, row((2, 1)))),
    (boxes.row_of_rim, (box(), letters_of_four("enenenen", "e", "n"))),
    (boxes.is_rim, (ANY_BOX, None)),
    (boxes.row_at, (ANY_BOX, integer(0, 0, 69))),
    (boxes.place_of, (ANY_BOX, row((2, 1)))),
    (boxes.rest_of, (ANY_BOX, row((2, 1)))),
    (boxes.greater_rows, (ANY_BOX, row((2, 1)))),
    (boxes.lesser_rows, (ANY_BOX, row((2, 1)))),
    (gauss.gaussian, (TOP, LOW)),
    (gauss.gaussian_by_product, (TOP, LOW)),
    (gauss.gaussian_by_rows, (TOP, LOW)),
    (gauss.gaussian_line, (integer(6, 0, 40),)),
    (gauss.first_rule, (integer(6, 1, 80), LOW)),
    (gauss.last_rule, (integer(6, 1, 80), LOW)),
    (gauss.split_terms, (LEAST, LEAST, integer(2, 0, 80))),
    (gauss.unlike_poly, (LEAST, LEAST)),
    (gauss.unlike_terms, (LEAST, LEAST)),
    (gauss.signed_sum, (LEAST,)),
    (words.lowered, (row((2, 1)),)),
    (words.raised, (row((2, 1)), letter("a"))),
    (words.word_of, (row((2, 1)),)),
    (words.row_of_word, (word("ab"),)),
    (words.heights_of, (word("ab"),)),
    (words.descents_of, (word("ab"),)),
    (words.word_size, (word("ab"),)),
    (words.depth_of, (word("ab"),)),
    (words.drop_of, (word("ab"),)),
    (words.closest_parts, (row((2, 1)),)),
    (words.steps_of, (row((2, 1)),)),
    (ranks.rank_word, (row((2, 1)),)),
    (ranks.row_of_rank_word, (word("ab"),)),
    (ranks.word_ranks, (word("ab"),)),
    (ranks.box_word, (ANY_BOX, row((2, 1)))),
    (ranks.is_box_word, (ANY_BOX, None)),
    (ranks.row_of_box_word, (box(), letters_of_four("babababa", "a", "b"))),
    (ranks.followed_places, (box(), letters_of_four("babababa", "a", "b"))),
    (ranks.crossed, (row((2, 1)),)),
    (ranks.uncrossed, (row((2, 1)),)),
    (ranks.crossed_often, (row((2, 1)), integer(2, -20, 20))),
    (ranks.round_of, (row((2, 1)), integer(20, 1, 200))),
    (bounding.Bounds, (integer(7, 3, 17), FIRST, integer(1, 1, 5), integer(1, 1, 5))),
    (bounding.has_window, (bounds(), ANY_BOX)),
    (bounding.is_bounded, (bounds(), None)),
    (bounding.failing_square, (bounds(), row((2, 1)))),
    (bounding.bounded_rows, (bounds(), ANY_BOX)),
    (bounding.bounded_poly, (bounds(), ANY_BOX)),
    (sums.sum_terms, (bounds(), ANY_BOX)),
    (sums.sum_poly, (bounds(), ANY_BOX)),
    (sums.sum_number, (bounds(), ANY_BOX)),
    (sums.alternating, SUMMED),
    (steps.column_rule, SUMMED),
    (steps.row_rule, SUMMED),
    (steps.by_steps, SUMMED),
    (steps.has_columns, (bounds(), ANY_BOX)),
    (steps.has_rows, (bounds(), ANY_BOX)),
    (steps.column_bounds, (bounds(),)),
    (steps.row_bounds, (bounds(),)),
    (steps.column_off, (bounds(), ANY_BOX, row((3, 2, 1, 1)))),
    (steps.column_on, (bounds(), ANY_BOX, row((2, 1)))),
    (steps.row_off, (bounds(), ANY_BOX, row((4, 2, 1)))),
    (steps.row_on, (bounds(), ANY_BOX, row((2, 1)))),
    (steps.split_by_column, (bounds(), ANY_BOX)),
    (steps.split_by_row, (bounds(), ANY_BOX)),
    (walks.Strip, (integer(5, 3, 12),)),
    (walks.is_walk, (strip(), None)),
    (walks.doubled_weight, (strip(), WALK)),
    (walks.rise_of, (strip(), WALK)),
    (walks.least_weight, (strip(), integer(2, 1, 4), LAST, goal(3, 2))),
    (walks.has_walks, (strip(), integer(2, 1, 4), STEPS, LAST, goal(3, 2))),
    (walks.walks, WALKS),
    (walks.walks_number, (strip(), BEGIN, integer(4, 0, 10000), LAST, goal(3, 2))),
    (walks.walks_poly, WALKS),
    (walks.walk_at, WALKS + (integer(0, 0, 4),)),
    (walks.place_of, (strip(), WALK)),
    (walks.lightest_walk, WALKS),
    (walks.mirrored_walk, (strip(), WALK)),
    (walks.sum_of_walks, WALKS),
    (walks.walks_of_sum, (bounds(bounding.Bounds(5, 2, 2, 2)), ANY_BOX)),
    (endless.rows_number, (FAR,)),
    (endless.rows_series, (FAR,)),
    (endless.rows_by_factors, (FAR,)),
    (endless.rows_by_listing, (FAR,)),
    (endless.pentagon_series, (FAR,)),
    (endless.parts_series, (ascending_parts((1, 4)), FAR)),
    (endless.unlike_series, (FAR,)),
    (endless.triple_series, TRIPLE_PRODUCT),
    (endless.triple_by_factors, TRIPLE_PRODUCT),
    (endless.series_times, (series((2, 0)), series((1, 3)))),
    (endless.series_over, (series((2, 0)), series((1, 3)))),
    (grown.grown_terms, GROWN),
    (grown.grown_series, GROWN),
    (grown.grown_number, GROWN),
    (grown.grown_by_rows, (bounds(), STAYED)),
    (grown.grown_product, (bounds(FIVE, (SEVEN,)), integer(6, 0, 1000))),
    (grown.stays_from, (bounds(), STAYED)),
    (grown.does_stay, (bounds(), ANY_BOX, STAYED)),
    (gaps.Kind, (ORDER, integer(2, 1, 3))),
    (gaps.is_gap_row, (kind(), None)),
    (gaps.gap_fault, (kind(), row((2, 1)))),
    (gaps.gap_rows, (kind(), GAPS_LISTED)),
    (gaps.gap_series, (kind(), integer(9, 0, 200))),
    (gaps.gap_table, (kind(), GAPS_LISTED)),
    (gaps.gap_row_at, (kind(PAIR), GAPS_LISTED, integer(0, 0, 4))),
    (gaps.gap_place, (kind(), row((2, 1)))),
    (gaps.gap_poly, (kind(), GREATEST)),
    (gaps.finite_sum, (kind(PAIR), GREATEST)),
    (gaps.finite_parts, (kind(PAIR), GREATEST)),
    (cut.successive_squares, (row((2, 1)),)),
    (cut.cut_row, (row((2, 1)),)),
    (cut.joined_row, (pieces(((2, (3,)), (1, (1,)))),)),
    (cut.cut_rows, (ORDER, integer(6, 0, 24))),
    (cut.rows_with_sides, (sides((2, 1)), integer(6, 0, 24))),
    (cut.cut_series, (ORDER, integer(6, 0, 120))),
    (cut.sides_series, (sides((2, 1)), integer(6, 0, 120))),
    (rests.is_rest_row, (kind(), None)),
    (rests.is_rank_row, (kind(), None)),
    (rests.let_parts, (kind(), integer(9, 0, 200))),
    (rests.rest_rows, (kind(), REST_LISTED)),
    (rests.rank_rows, (kind(), REST_LISTED)),
    (rests.rest_series, (kind(), integer(6, 0, 200))),
    (rests.rank_series, (kind(), integer(6, 0, 200))),
    (rests.rest_table, (kind(), REST_LISTED)),
    (rests.rank_span, (row((2, 1)),)),
    (rests.rank_kinds, (row((2, 1)),)),
    (folded.is_path, (kind(), None)),
    (folded.path_of, (kind(), row((4, 2, 1)))),
    (folded.row_of_path, (OF_TRIPLE, PATH)),
    (folded.peaks_of, (OF_TRIPLE, PATH)),
    (folded.path_by_peaks, (OF_TRIPLE, peaks(((2, 1), (5, 2))))),
    (folded.ranked, (kind(), row((4, 2, 1)))),
    (folded.gap_row_of, (kind(), row((3, 3, 1)))),
    (marks.marks_of, (row((2, 1)),)),
    (marks.class_of, (row((2, 1)),)),
    (marks.class_for, (kind(), row((4, 2, 1)))),
    (marks.relative_heights, (OF_TRIPLE, PATH)),
    (marks.is_class, (kind(), None)),
    (marks.class_least, (kind(), NUMBERS)),
    (marks.class_series, (kind(), NUMBERS, integer(10, 0, 100))),
    (marks.classes_to, (kind(), integer(6, 0, 40))),
    (marks.rows_of_class, (kind(), NUMBERS, integer(8, 0, 30))),
    (method("put"), (new_name("c"), row((2, 1)))),
    (method("twice"), (new_name("c"), known_name("a"))),
    (method("lessen"), (known_name("b"),)),
    (method("lift"), (known_name("b"), letter("a"))),
    (method("turn"), (known_name("b"),)),
    (method("cross"), (known_name("b"),)),
    (method("drop"), (known_name("b"),)),
    (method("rename"), (new_names({"a": "a", "b": "c"}),)),
    (method("demand"), (pledge(("size", "b", 5)),)),
    (method("waive"), (known_pledge(("size", "a", 4)),)),
    (method("undo", "many"), (integer(1, 0, LONGEST),)),
    (method("redo", "many"), (integer(1, 0, LONGEST),)),
    (method("row_named"), (known_name("b"),)),
)

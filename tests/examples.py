"""The examples of the document, word for word, by the module to which their names belong."""

TEXTS = {
    "hookstrips.base.numbers": """
>>> [is_name("Ab"), is_name("lattice"), is_integer(True), binomial(6, 2), binomial(6, 7), binomial(6, -1), binomials(5)]
[False, True, False, 15, 0, 0, (1, 5, 10, 10, 5, 1)]
>>> [[pentagonal(number) for number in (0, 1, -1, 2, -2)], pentagonal_root(7), pentagonal_root(6), modulo_of(-3, 5)]
[[0, 1, 2, 5, 7], -2, None, 2]
>>> [list_text((3, -1, 0)), list_text(()), numbers_of_text("12 -5"), numbers_of_text("-")]
['3 -1 0', '-', (12, -5), ()]
>>> numbers_of_text("1 02")
raises ParseError(2)
""",
    "hookstrips.base.polys": """
>>> [poly_of((1, 0, -2, 0, 0)), poly_of((0, 0)), is_poly((1, 0)), is_poly(()), degree_of(()), degree_of((0, 0, 5)), coefficient((1, 2), 1), coefficient((1, 2), 10 ** 20)]
[(1, 0, -2), (), False, True, -1, 2, 2, 0]
>>> [added((1, 2), (3, -2)), less((1, 2), (1, 2)), multiplied((1, 1), (1, -1)), multiplied((), (1, 1)), shifted((1, 1), 2), shifted((), 3), scaled((1, 2), 0)]
[(4,), (), (1, 0, -1), (), (0, 0, 1, 1), (), ()]
>>> [at_one((1, 1, 2, 1, 1)), at_minus_one((1, 1, 2, 1, 1)), cut((1, 1, 2, 1, 1), 2), cut((1,), 3), times_factor((1, 1, 1), 1), over_factor((1, 0, 0, -1), 1), over_factor((1, 0, -1, 0, -1, 0, 1), 2)]
[6, 2, (1, 1, 2), (1, 0, 0, 0), (1, 0, 0, -1), (1, 1, 1), (1, 0, 0, 0, -1)]
>>> [over_factors_to((1,), 2, 6), over_factors_to((1, 1), 0, 3), over_factors_to((0, 1), 1, 4), is_balanced((0, 2, 1, 2)), is_peaked((1, 1, 2, 1, 1)), is_peaked(multiplied((3, 1, 1), (3, 1, 1)))]
[(1, 1, 2, 2, 3, 3, 4), (1, 1, 0, 0), (0, 1, 1, 1, 1), True, True, False]
>>> over_factor((1, 1), 2)
raises InvalidOperation
""",
    "hookstrips.shape.rows": """
>>> [turned((4, 2, 1)), turned(()), columns((4, 2, 1)), ranks((4, 2, 1)), ranks(()), row_of_columns(((3, 2), (0, 0))), row_of_columns(((0, 4),))]
[(3, 2, 1, 1), (), ((3, 2), (0, 0)), (1, 0), (), (4, 2, 1), (1, 1, 1, 1, 1)]
>>> [hook_difference((4, 2, 1), 1, 3), hook_difference((4, 2, 1), 3, 1), squares_on((4, 2, 1), -1), squares_on((5, 5, 1), -2), hook_differences((5, 5, 1), -2), squares_on((4, 2, 1), 3)]
[3, -2, ((1, 2),), ((1, 3), (2, 4)), (3, 3), ()]
>>> [has_square((4, 2, 1), (2, 2)), has_square((4, 2, 1), [2, 2]), put_together((4, 2, 1), (3, 2)), is_inside((2, 1), (4, 2, 1)), is_inside((3, 3), (4, 2, 1)), parts_of((3, 1, 1), 1)]
[True, False, (4, 3, 2, 2, 1), True, False, 2]
>>> row_of_columns(((2, 3), (2, 1)))
raises InvalidRow
""",
    "hookstrips.shape.boxes": """
>>> [FOUR.number, Box(40, 40).number, str(Box(4, 3)), (4, 4, 1) in FOUR, (5,) in FOUR, [1] in FOUR, list(box_rows(Box(2, 2))), FOUR == FOUR.turned_box]
[70, 107507208733336176461620, 'box 4 wide, 3 high', True, False, False, [(2, 2), (2, 1), (1, 1), (2,), (1,), ()], True]
>>> [rim_of(FOUR, (3, 1)), row_of_rim(FOUR, "eennenen"), row_at(FOUR, 10), place_of(FOUR, (3, 1)), row_at(FOUR, 69), place_of(Box(0, 5), ())]
['nneneene', (4, 3, 2, 2), (4, 3, 2, 2), 62, (), 0]
>>> [rest_of(FOUR, (3, 1)), rest_of(Box(3, 2), ()), greater_rows(Box(3, 2), (2, 2)), lesser_rows(FOUR, (3, 1)), rim_of(Box(3, 4), (3, 1)), rim_of(Box(4, 3), (2, 1, 1))]
[(4, 4, 3, 1), (3, 3), ((3, 2),), ((2, 1), (3,)), 'nneneen', 'ennenee']
>>> rim_of(FOUR, (5,))
raises InvalidOperation
""",
    "hookstrips.shape.gauss": """
>>> [gaussian(4, 2), gaussian(5, 2), gaussian(6, 3), gaussian(3, 4), gaussian(3, -1), gaussian(0, 0), gaussian_by_product(4, 2), gaussian_by_rows(5, 3)]
[(1, 1, 2, 1, 1), (1, 1, 2, 2, 2, 1, 1), (1, 1, 2, 3, 3, 3, 3, 2, 1, 1), (), (), (1,), (1, 1, 2, 1, 1), (1, 1, 2, 2, 2, 1, 1)]
>>> [gaussian_line(3), first_rule(4, 2), last_rule(4, 2), first_rule(2, 0), last_rule(1, 2)]
[((1,), (1, 1, 1), (1, 1, 1), (1,)), ((1, 1, 1), (0, 0, 1, 1, 1)), ((0, 0, 1, 1, 1), (1, 1, 1)), ((), (1,)), ((), ())]
>>> [split_terms(2, 2, 2), split_terms(1, 3, 2), unlike_poly(1, 2), unlike_terms(1, 2), unlike_poly(0, 1), signed_sum(3), signed_sum(4)]
[((1,), (0, 1, 2, 1), (0, 0, 0, 0, 1)), ((), (1, 1, 1), (0, 0, 1, 1, 1)), (1, 1, 1, 1), ((1,), (0, 1, 1), (0, 0, 0, 1)), (2,), (), (1, -1, 0, -1, 1)]
>>> gaussian_by_rows(16, 8)
raises TooMany(5000)
""",
    "hookstrips.shape.words": """
>>> [word_of((3, 1)), word_of((2, 2)), word_of((4, 2, 1)), word_of(()), word_of((1, 1, 1)), word_of((5,))]
['bab', 'aabb', 'ababb', '', 'bbb', 'aaaab']
>>> [row_of_word("ababb"), row_of_word("bb"), lowered((4, 2, 1)), raised((3, 1, 1), "a"), raised((3, 1), "b"), raised((), "a")]
[(4, 2, 1), (1, 1), ((3, 1, 1), 'a'), (4, 2, 1), (4, 1, 1), ()]
>>> [descents_of("ababb"), word_size("ababb"), heights_of("ababb"), depth_of("ababb"), drop_of("ababb"), closest_parts((4, 2, 1))]
[(2, 5), 7, (0, 1, 0, 1, 0, -1), 1, 2, 2]
>>> [is_word("ab"), is_word("ba"), is_word(""), list(steps_of((3, 1)))]
[True, False, True, [(3, 1), (2,), (1,), ()]]
>>> lowered(())
raises InvalidOperation
""",
    "hookstrips.shape.ranks": """
>>> [rank_word((3, 1)), rank_word((4, 2, 1)), rank_word(()), rank_word((5,)), rank_word((1, 1, 1)), row_of_rank_word("bab"), word_ranks("baaabb")]
['aabb', 'baaabb', '', 'aaaab', 'bbb', (2, 2), (0, 1)]
>>> [box_word(FOUR, (4, 2, 1)), box_word(FOUR, ()), row_of_box_word(FOUR, "babababa"), followed_places(FOUR, "baaabbab"), is_box_word(FOUR, "aaaabbb"), box_word(Box(2, 3), (1,))]
['baaabbab', 'aaaabbbb', (4, 4, 4, 4), (1, 6), False, 'baabb']
>>> [crossed((3, 1)), uncrossed((4, 4, 2)), crossed((4, 4, 2)), crossed_often((4, 2), 2), crossed_often((4, 2), -2), round_of((4, 3, 1), 10), round_of((4, 3, 1), 4)]
[(2, 2), (6, 3, 1), (6, 2, 2), (3, 3), (5, 1), ((4, 3, 1), (4, 2, 2), (6, 1, 1), (3, 3, 2), (5, 2, 1)), None]
>>> box_word(FOUR, (5,))
raises InvalidOperation
""",
    "hookstrips.diagonal.bounds": """
>>> [(bounds.low, bounds.low_diagonal, bounds.high, bounds.high_diagonal, bounds.window) for bounds in (FIVE, SEVEN)]
[(0, 0, 1, 0, (-1, 2)), (0, -1, 1, 1, (-1, 2))]
>>> [is_bounded(FIVE, row) for row in ((2, 2), (1, 1), (2, 1), (3,), (4, 2, 1), ())]
[True, False, True, False, True, True]
>>> [failing_square(FIVE, (3, 3, 1)), failing_square(FIVE, (1, 1)), failing_square(SEVEN, (4, 4)), failing_square(SEVEN, (2, 2, 2)), failing_square(SEVEN, (5, 1))]
[None, (1, 1), (2, 1), (1, 2), None]
>>> [bounded_rows(FIVE, Box(2, 2)), bounded_poly(FIVE, FOUR), len(bounded_rows(SEVEN, FOUR)), bounded_poly(FIVE, Box(4, 0))]
[((), (1,), (2,), (2, 1), (2, 2)), (1, 1, 1, 1, 2, 2, 3, 3, 3, 3, 3, 3, 3, 2, 1, 1, 1), 61, (1,)]
>>> [SEVEN.turned_bounds == Bounds(7, 4, 2, 2), str(FIVE), has_window(FIVE, Box(3, 1)), has_window(FIVE, Box(4, 1)), has_window(FIVE, FOUR)]
[True, 'bounds 5 2 1 1', True, False, True]
>>> Bounds(5, 2, 2, 3)
raises InvalidNumber(3)
""",
    "hookstrips.diagonal.sums": """
>>> [sum_poly(FIVE, FOUR), sum_number(SEVEN, FOUR), sum_poly(FIVE, Box(2, 2))]
[(1, 1, 1, 1, 2, 2, 3, 3, 3, 3, 3, 3, 3, 2, 1, 1, 1), 61, (1, 1, 1, 1, 1)]
>>> [sum_terms(FIVE, FOUR), sum_terms(SEVEN, FOUR)]
[((1, 0, 8, 4), (-1, 2, 8, 6), (-1, 3, 8, 1)), ((1, 0, 8, 4), (-1, 6, 8, 7), (-1, 8, 8, 0))]
>>> [sum_poly(Bounds(12, 6, 2, 2), FOUR) == gaussian(8, 4), sum_poly(SEVEN, FOUR) == sum_poly(SEVEN.turned_bounds, FOUR)]
[True, True]
>>> [alternating(5, 2, 1, 1, Box(4, 0)), alternating(5, 2, 0, 1, Box(2, 2)), alternating(4, 1, 0, 0, Box(2, 1)), alternating(2, 1, 0, 0, Box(1, 1)), alternating(4, 2, 0, 1, Box(3, 3))]
[(1, 0, 0, -1, -1, -1, -1), (1, 1, 1, 1, 1), (0, 1, 1), (-1, 1), (0, 0, 0, 1, 1, 1, 2, 1, 1, 1)]
>>> sum_poly(FIVE, Box(4, 0))
raises Refused(('window',))
""",
    "hookstrips.diagonal.steps": """
>>> column_rule(7, 3, 2, 2, FOUR)
((1, 1, 2, 3, 4, 4, 4, 4, 3, 3, 2, 1, 1), (0, 0, 0, 0, 1, 1, 2, 2, 3, 3, 4, 3, 3, 2, 2, 1, 1))
>>> [by_steps(5, 2, 0, 2, Box(2, 2)), by_steps(5, 2, 1, 1, Box(0, 3)), row_rule(5, 2, 1, 1, Box(1, 1)), column_bounds(SEVEN) == Bounds(7, 3, 3, 1), row_bounds(SEVEN) == Bounds(7, 3, 1, 3)]
[(1, 1, 2, 1), (1, 0, -1, -1, -1), ((1,), (0, 1)), True, True]
>>> [has_columns(SEVEN, FOUR), has_rows(SEVEN, FOUR), has_columns(FIVE, FOUR), has_columns(SEVEN, Box(4, 2)), has_rows(SEVEN, Box(4, 2))]
[True, True, False, False, True]
>>> [column_off(SEVEN, FOUR, (3, 2, 1, 1)), column_on(SEVEN, FOUR, (2, 1)), row_off(SEVEN, FOUR, (4, 2, 1)), row_on(SEVEN, FOUR, (2, 1)), split_by_row(SEVEN, FOUR)[0]]
[(2, 1), (3, 2, 1, 1), (2, 1), (4, 2, 1), (1, 1, 2, 3, 4, 4, 4, 3, 3, 2, 1)]
>>> column_off(FIVE, FOUR, (1, 1, 1, 1))
raises Refused(('column',))
""",
    "hookstrips.walled.walks": """
>>> STRIP = Strip(5)
>>> list(walks(STRIP, 2, 4, 2, 3))
[(2, 1, 2, 1, 2, 3), (2, 1, 2, 3, 2, 3), (2, 3, 2, 1, 2, 3), (2, 3, 2, 3, 2, 3), (2, 3, 4, 3, 2, 3)]
>>> [[doubled_weight(STRIP, walk) for walk in walks(STRIP, 2, 4, 2, 3)], walks_poly(STRIP, 2, 4, 2, 3), walk_at(STRIP, 2, 4, 2, 3, 4), place_of(STRIP, (2, 3, 2, 1, 2, 3))]
[[4, 2, 6, 0, 4], (1, 1, 2, 1), (2, 3, 4, 3, 2, 3), 2]
>>> [least_weight(STRIP, 1, 2, 3), rise_of(STRIP, (1, 2, 1, 2, 3)), lightest_walk(Strip(6), 1, 5, 4, 5), walks_number(STRIP, 2, 100, 2, 3), mirrored_walk(STRIP, (1, 2, 1, 2, 3)), str(STRIP)]
[1, 1, (1, 2, 3, 4, 5, 4, 5), 573147844013817084101, (4, 3, 4, 3, 2), 'strip 1 to 4']
>>> [sum_of_walks(STRIP, 2, 4, 2, 3) == (Bounds(5, 2, 2, 2), Box(2, 2)), walks_of_sum(Bounds(5, 2, 2, 2), Box(2, 2)), has_walks(STRIP, 2, 3, 2, 3), is_walk(STRIP, (2, 3, 5)), is_walk(STRIP, (4, 3))]
[True, (2, 4, 2, 3), False, False, True]
>>> next(walks(STRIP, 2, 4, 2, 4))
raises InvalidNumber(4)
""",
    "hookstrips.endless.series": """
>>> [rows_series(10), rows_number(400), rows_by_factors(6) == rows_by_listing(6), pentagon_series(12)]
[(1, 1, 2, 3, 5, 7, 11, 15, 22, 30, 42), 6727090051741041926, True, (1, -1, -1, 0, 0, 1, 0, 1, 0, 0, 0, 0, -1)]
>>> [triple_series(5, 2, 12), triple_by_factors(4, 2, 8), triple_series(3, 1, 12) == pentagon_series(12)]
[(1, 0, -1, -1, 0, 0, 0, 0, 0, 1, 0, 1, 0), (1, 0, -2, 0, 0, 0, 0, 0, 2), True]
>>> [series_times(rows_series(6), triple_series(5, 2, 6)), parts_series((1, 4, 6), 6), series_over((1, 0, 0, 0), (1, -1)), unlike_series(6)]
[(1, 1, 1, 1, 2, 2, 3), (1, 1, 1, 1, 2, 2, 3), (1, 1), (1, 1, 1, 2, 2, 3, 4)]
>>> rows_by_listing(21)
raises TooMany(20)
""",
    "hookstrips.endless.grown": """
>>> [grown_terms(FIVE, 20), grown_terms(SEVEN, 30)]
[((-1, 1, 11), (0, 1, 0), (0, -1, 2), (1, 1, 9), (1, -1, 3)), ((-1, 1, 30), (0, 1, 0), (0, -1, 6), (1, 1, 26), (1, -1, 8))]
>>> [grown_series(FIVE, 12), grown_series(SEVEN, 10), grown_product(FIVE, 8), grown_number(FIVE, 12)]
[(1, 1, 1, 1, 2, 2, 3, 3, 4, 5, 6, 7, 9), (1, 1, 2, 3, 5, 7, 10, 14, 19, 26, 35), (1, 1, 1, 1, 2, 2, 3, 3, 4), 9]
>>> [grown_by_rows(FIVE, 4), grown_product(Bounds(4, 2, 1, 1), 8), stays_from(FIVE, 8), stays_from(SEVEN, 8), does_stay(FIVE, FOUR, 4), does_stay(FIVE, FOUR, 8)]
[(1, 1, 1, 1, 2), (1, 1, 0, 1, 1, 1, 1, 1, 2), 5, 8, True, False]
>>> grown_product(SEVEN, 5)
raises Refused(('product',))
""",
    "hookstrips.kinds.gaps": """
>>> [gap_series(PAIR, 12), gap_series(Kind(2, 1), 8), gap_rows(PAIR, 9), gap_rows(TRIPLE, 5), str(TRIPLE), TRIPLE.modulus]
[(1, 1, 1, 1, 2, 2, 3, 3, 4, 5, 6, 7, 9), (1, 0, 1, 1, 1, 1, 2, 2, 3), ((5, 3, 1), (6, 3), (7, 2), (8, 1), (9,)), ((3, 2), (4, 1), (5,)), 'kind 3, 2', 7]
>>> [gap_table(TRIPLE, 6), is_gap_row(TRIPLE, (4, 4, 2, 1)), is_gap_row(TRIPLE, (4, 4, 3)), gap_fault(TRIPLE, (4, 4, 3)), gap_fault(TRIPLE, (2, 1, 1))]
[((1, 0, 0, 0, 0, 0, 0), (0, 1, 1, 1, 1, 1, 1), (0, 0, 0, 1, 2, 2, 3), (0, 0, 0, 0, 0, 0, 1)), True, False, 3, 0]
>>> [gap_poly(TRIPLE, 3), gap_poly(PAIR, 4), finite_sum(PAIR, 4), finite_parts(Kind(2, 1), 5)[1] == Box(4, 2), gap_row_at(PAIR, 9, 1), gap_place(PAIR, (8, 1))]
[(1, 1, 1, 2, 2, 1, 2, 1), (1, 1, 1, 1, 2, 1, 1), (1, 1, 1, 1, 2, 1, 1), True, (6, 3), 3]
>>> Kind(3, 4)
raises InvalidNumber(4)
""",
    "hookstrips.kinds.rests": """
>>> [rest_rows(TRIPLE, 6), rank_rows(TRIPLE, 6)]
[((1, 1, 1, 1, 1, 1), (3, 1, 1, 1), (3, 3), (4, 1, 1), (6,)), ((3, 2, 1), (3, 3), (4, 1, 1), (4, 2), (5, 1))]
>>> [rest_series(PAIR, 9), rank_series(PAIR, 9) == rest_series(PAIR, 9), rank_rows(PAIR, 7), let_parts(TRIPLE, 9), rest_rows(PAIR, 0)]
[(1, 1, 1, 1, 2, 2, 3, 3, 4, 5), True, ((3, 3, 1), (4, 1, 1, 1), (4, 2, 1)), (1, 3, 4, 6, 8), ((),)]
>>> [rest_table(TRIPLE, 7), rank_span((5, 5, 1)), rank_span(()), rank_kinds((5, 5, 1))[:4], rank_kinds((3, 1))[:3], is_rank_row(PAIR, (3, 1)), is_rest_row(PAIR, (3, 1))]
[{2: 2, 3: 1, 4: 1, 5: 1, 7: 1}, (2, 3), None, ((3, 1), (3, 2), (4, 1), (4, 2)), ((2, 1), (2, 2), (3, 1)), True, False]
>>> rank_rows(PAIR, 41)
raises InvalidNumber(41)
""",
    "hookstrips.kinds.folded": """
>>> [path_of(PAIR, (4, 2)), path_of(TRIPLE, (4, 2, 1)), peaks_of(TRIPLE, (1, 0, 1, 0, 1, 2)), row_of_path(PAIR, (0, 1, 0, 0, 1)), path_of(TRIPLE, ())]
[(0, 0, 1, 0, 1), (1, 0, 1, 0, 1, 2), ((2, 1), (5, 2)), (4, 1), (1,)]
>>> [ranked(PAIR, (4, 2)), ranked(PAIR, (3,)), ranked(TRIPLE, (4, 2, 1)), ranked(TRIPLE, (3,)), gap_row_of(TRIPLE, (5, 4)), ranked(Kind(3, 3), (5, 2, 2))]
[(3, 3), (2, 1), (3, 3, 1), (3,), (5, 2, 2), (3, 3, 2, 1)]
>>> [path_by_peaks(PAIR, ((1, 1), (4, 1))), path_by_peaks(PAIR, ((1, 1), (2, 1))), path_by_peaks(TRIPLE, ()), is_path(PAIR, (0, 1, 2)), is_path(TRIPLE, (1, 0))]
[(0, 1, 0, 0, 1), None, (1,), False, False]
>>> path_of(PAIR, (2, 1))
raises InvalidOperation
""",
    "hookstrips.kinds.marks": """
>>> [marks_of((4, 2, 1)), marks_of((6, 5, 3, 3, 1)), class_of((6, 5, 3, 3, 1)), class_for(TRIPLE, (4, 2, 1)), class_for(TRIPLE, (8,)), class_of(())]
[(1, 2, 1), (1, 1, 2, 1, 2), (3, 2), (2, 1), (1, 0), ()]
>>> [relative_heights(TRIPLE, (1, 0, 1, 0, 1, 2)), relative_heights(TRIPLE, (1, 2, 1, 0, 0, 1, 2)), relative_heights(TRIPLE, (1, 2)), relative_heights(PAIR, (0, 0, 1))]
[(1, 2), (1, 2), (1,), (1,)]
>>> [class_least(TRIPLE, (2, 1)), class_series(TRIPLE, (2, 1), 10), class_series(PAIR, (2,), 8), classes_to(TRIPLE, 6), is_class(TRIPLE, (1, 2))]
[6, (0, 0, 0, 0, 0, 0, 1, 2, 3, 4, 5), (0, 0, 0, 0, 1, 1, 2, 2, 3), ((0, 0), (1, 0), (1, 1), (2, 0), (2, 1)), False]
>>> rows_of_class(TRIPLE, (2, 1), 8)
((4, 2, 2), (4, 3, 1), (5, 2, 1))
>>> class_series(TRIPLE, (1, 2), 5)
raises InvalidOperation
""",
    "hookstrips.kinds.cut": """
>>> [successive_squares((4, 4, 3, 1)), successive_squares((5, 2, 2, 1)), successive_squares(()), successive_squares((1, 1, 1)), successive_squares((6,))]
[(3, 1), (2, 1, 1), (), (1, 1, 1), (1,)]
>>> [cut_row((4, 4, 3, 1)), cut_row((5, 2, 2, 1)), joined_row(((2, (3,)), (1, (1,)), (1, ()))), are_pieces(((1, ()), (1, (1,)))), are_pieces(())]
[((3, (1, 1)), (1, ())), ((2, (3,)), (1, (1,)), (1, ())), (5, 2, 2, 1), False, True]
>>> [cut_rows(2, 6), rows_with_sides((2, 1), 6), rows_with_sides((2, 1), 7), rows_with_sides((), 0)]
[((3, 3), (4, 2), (6,)), ((2, 2, 2), (3, 2, 1)), ((3, 2, 2), (3, 3, 1), (4, 2, 1)), ((),)]
>>> [cut_series(2, 8), cut_series(3, 8), sides_series((2, 1), 11), sides_series((), 2)]
[(1, 1, 1, 1, 2, 2, 3, 3, 4), (1, 1, 2, 2, 3, 4, 6, 7, 10), (0, 0, 0, 0, 0, 1, 2, 3, 4, 5, 6, 7), (1, 0, 0)]
>>> joined_row(((1, ()), (2, ())))
raises InvalidOperation
""",
    "hookstrips.use.ledger": """
>>> ledger, kept = Ledger(), ("size", "a", 4)
>>> [ledger.put("a", (3, 1)), ledger.demand(kept), ledger.demand(("box", "a", 3, 3)), ledger.cross("a"), ledger.turn("a")]
[((), ('a: 3 1',)), ((), ()), ((), ()), (('a: 3 1',), ('a: 2 2',)), ((), ())]
>>> ledger.lessen("a")
raises Refused(('size', 'a', 4))
>>> [ledger.twice("b", "a")[1], ledger.lift("b", "b"), ledger.lessen("b")[1], ledger.changes, str(ledger), kept in ledger]
[('b: 2 2',), (('b: 2 2',), ('b: 3 2 1',)), ('b: 2 2',), 8, 'ledger of 2 rows, 2 pledges', True]
>>> [ledger.undo(many=2)[0] == ledger.twin().redo(many=2)[1], ledger.labels, ledger.undo(many=3)[1], list(ledger)]
[True, ('a', 'b'), ('a: 3 1',), ['a: 3 1']]
""",
}

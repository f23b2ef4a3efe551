"""The names, arguments and constants of the interface, each in the file of its heading."""

import ast
import importlib
import inspect
import unittest

CONSTANTS = {
    "hookstrips.base.numbers": {"MAX_NAME": 8, "MAX_TOP": 1000, "MAX_LISTED": 60, "MAX_TEXT": 4000},
    "hookstrips.base.polys": {"MAX_NUMBERS": 4000, "MAX_FACTOR": 400, "MAX_SERIES": 1000},
    "hookstrips.shape.rows": {"MAX_PARTS": 60, "MAX_PART": 200},
    "hookstrips.shape.boxes": {"MAX_SIDE": 40, "MOST_LISTED": 5000},
    "hookstrips.shape.gauss": {"MAX_TOP": 80, "MAX_LINE": 40, "MAX_LISTED": 5000},
    "hookstrips.shape.words": {"MOST_LETTERS": 400},
    "hookstrips.shape.ranks": {"MOST_CROSSED": 20},
    "hookstrips.diagonal.bounds": {"MAX_MODULUS": 17, "MAX_LISTED": 5000},
    "hookstrips.diagonal.steps": {"MAX_STEPPED": 12},
    "hookstrips.walled.walks": {"MAX_WALLS": 12, "MAX_WALK": 62, "MOST_WALKS": 2000, "FAR_STEPS": 10000},
    "hookstrips.endless.series": {"MAX_SIZE": 400, "MOST_LISTED": 20},
    "hookstrips.endless.grown": {"MAX_GROWN": 1000, "MAX_STAY": 20, "PRODUCT": "product"},
    "hookstrips.kinds.gaps": {
        "MOST_ORDER": 8, "MOST_SIZE": 200, "MOST_LISTED_SIZE": 60, "MOST_ROWS": 3000, "MOST_GREATEST": 40,
    },
    "hookstrips.kinds.cut": {"MOST_SIZE": 120, "MOST_ROWS_SIZE": 24, "MOST_SIDES": 7},
    "hookstrips.kinds.rests": {"MAX_LISTED": 3000, "MAX_SIZE": 200, "MAX_ROWS": 40},
    "hookstrips.kinds.folded": {"MOST_HEIGHTS": 401},
    "hookstrips.use.ledger": {"MAX_ROWS": 6, "MAX_PLEDGES": 10, "MAX_PARTS": 60, "MAX_PART": 200},
}

FUNCTIONS = {
    "hookstrips.base.numbers": (
        "is_integer(value) is_name(value) binomial(top,low) binomials(top) pentagonal(number) pentagonal_root(value)"
        " modulo_of(number,modulus) list_text(numbers) numbers_of_text(text)"
    ),
    "hookstrips.base.polys": (
        "is_poly(value) poly_of(numbers) degree_of(poly) coefficient(poly,at) added(one,other) less(one,other)"
        " multiplied(one,other) shifted(poly,many) scaled(poly,number) at_one(poly) at_minus_one(poly) cut(poly,size)"
        " times_factor(poly,step) over_factor(poly,step) over_factors_to(poly,many,size) is_balanced(poly)"
        " is_peaked(poly)"
    ),
    "hookstrips.shape.rows": (
        "is_row(value) size_of(row) turned(row) parts_of(row,part) has_square(row,value) hook_difference(row,r,c)"
        " squares_on(row,diagonal) hook_differences(row,diagonal) ranks(row) columns(row) row_of_columns(columns)"
        " put_together(one,other) is_inside(one,other)"
    ),
    "hookstrips.shape.boxes": (
        "box_rows(box) rim_of(box,row) row_of_rim(box,rim) is_rim(box,value) row_at(box,place) place_of(box,row)"
        " rest_of(box,row) greater_rows(box,row) lesser_rows(box,row)"
    ),
    "hookstrips.shape.gauss": (
        "gaussian(top,low) gaussian_by_product(top,low) gaussian_by_rows(top,low) gaussian_line(top)"
        " first_rule(top,low) last_rule(top,low) split_terms(one,other,low) unlike_poly(least,many)"
        " unlike_terms(least,many) signed_sum(top)"
    ),
    "hookstrips.shape.words": (
        "is_word(value) lowered(row) raised(row,letter) word_of(row) row_of_word(word) heights_of(word)"
        " descents_of(word) word_size(word) depth_of(word) drop_of(word) closest_parts(row) steps_of(row)"
    ),
    "hookstrips.shape.ranks": (
        "rank_word(row) row_of_rank_word(word) word_ranks(word) box_word(box,row) is_box_word(box,value)"
        " row_of_box_word(box,letters) followed_places(box,letters) crossed(row) uncrossed(row)"
        " crossed_often(row,many) round_of(row,most)"
    ),
    "hookstrips.diagonal.bounds": (
        "has_window(bounds,box) is_bounded(bounds,value) failing_square(bounds,row) bounded_rows(bounds,box)"
        " bounded_poly(bounds,box)"
    ),
    "hookstrips.diagonal.sums": (
        "sum_terms(bounds,box) sum_poly(bounds,box) sum_number(bounds,box) alternating(modulus,first,alpha,beta,box)"
    ),
    "hookstrips.diagonal.steps": (
        "column_rule(modulus,first,alpha,beta,box) row_rule(modulus,first,alpha,beta,box)"
        " by_steps(modulus,first,alpha,beta,box) has_columns(bounds,box) has_rows(bounds,box) column_bounds(bounds)"
        " row_bounds(bounds) column_off(bounds,box,row) column_on(bounds,box,row) row_off(bounds,box,row)"
        " row_on(bounds,box,row) split_by_column(bounds,box) split_by_row(bounds,box)"
    ),
    "hookstrips.walled.walks": (
        "is_walk(strip,value) doubled_weight(strip,walk) rise_of(strip,walk) least_weight(strip,first,last,goal)"
        " has_walks(strip,first,steps,last,goal) walks(strip,first,steps,last,goal)"
        " walks_number(strip,first,steps,last,goal) walks_poly(strip,first,steps,last,goal)"
        " walk_at(strip,first,steps,last,goal,place) place_of(strip,walk) lightest_walk(strip,first,steps,last,goal)"
        " mirrored_walk(strip,walk) sum_of_walks(strip,first,steps,last,goal) walks_of_sum(bounds,box)"
    ),
    "hookstrips.endless.series": (
        "rows_number(size) rows_series(size) rows_by_factors(size) rows_by_listing(size) pentagon_series(size)"
        " parts_series(parts,size) unlike_series(size) triple_series(modulus,first,size)"
        " triple_by_factors(modulus,first,size) series_times(one,other) series_over(one,other)"
    ),
    "hookstrips.endless.grown": (
        "grown_terms(bounds,size) grown_series(bounds,size) grown_number(bounds,size) grown_by_rows(bounds,size)"
        " grown_product(bounds,size) stays_from(bounds,size) does_stay(bounds,box,size)"
    ),
    "hookstrips.kinds.gaps": (
        "is_gap_row(kind,value) gap_fault(kind,row) gap_rows(kind,size) gap_series(kind,size) gap_table(kind,size)"
        " gap_row_at(kind,size,place) gap_place(kind,row) gap_poly(kind,greatest) finite_sum(kind,greatest)"
        " finite_parts(kind,greatest)"
    ),
    "hookstrips.kinds.cut": (
        "successive_squares(row) cut_row(row) are_pieces(value) joined_row(pieces) cut_rows(order,size)"
        " rows_with_sides(sides,size) cut_series(order,size) sides_series(sides,size)"
    ),
    "hookstrips.kinds.rests": (
        "is_rest_row(kind,value) is_rank_row(kind,value) let_parts(kind,most) rest_rows(kind,size) rank_rows(kind,size)"
        " rest_series(kind,size) rank_series(kind,size) rest_table(kind,size) rank_span(row) rank_kinds(row)"
    ),
    "hookstrips.kinds.folded": (
        "is_path(kind,value) path_of(kind,row) row_of_path(kind,path) peaks_of(kind,path) path_by_peaks(kind,peaks)"
        " ranked(kind,row) gap_row_of(kind,row)"
    ),
    "hookstrips.kinds.marks": (
        "marks_of(row) class_of(row) class_for(kind,row) relative_heights(kind,path) is_class(kind,value)"
        " class_least(kind,numbers) class_series(kind,numbers,size) classes_to(kind,size)"
        " rows_of_class(kind,numbers,size)"
    ),
    "hookstrips.use.ledger": "is_pledge(value)",
}

# Each class with what it is made of, its properties, its methods by signs, and its other methods.
CLASSES = {
    ("hookstrips.shape.boxes", "Box"): (
        "wide,high", "wide high number turned_box", "__init__ __contains__ __eq__ __str__", "",
    ),
    ("hookstrips.diagonal.bounds", "Bounds"): (
        "modulus,first,alpha,beta",
        "modulus first alpha beta low low_diagonal high high_diagonal window turned_bounds", "__init__ __eq__ __str__",
        "",
    ),
    ("hookstrips.walled.walks", "Strip"): ("walls", "walls highest", "__init__ __eq__ __str__", ""),
    ("hookstrips.kinds.gaps", "Kind"): ("order,first", "order first modulus", "__init__ __eq__ __str__", ""),
    ("hookstrips.use.ledger", "Ledger"): (
        "", "labels lines pledges changes", "__init__ __contains__ __len__ __iter__ __eq__ __str__",
        "put(name,row) twice(name,one) lessen(name) lift(name,letter) turn(name) cross(name) drop(name) rename(names)"
        " demand(pledge) waive(pledge) undo(*many=1) redo(*many=1) trial() during(call) twin() row_named(name)",
    ),
}


def defined_in(module):
    """The names that the file of a module defines by def and class."""
    with open(module.__file__, encoding="ascii") as file:
        tree = ast.parse(file.read())
    return [node.name for node in tree.body if isinstance(node, (ast.FunctionDef, ast.ClassDef))]


class Interface(unittest.TestCase):
    def test_constants(self):
        for path, constants in CONSTANTS.items():
            module = importlib.import_module(path)
            for name, worth in constants.items():
                with self.subTest(path=path, name=name):
                    self.assertIs(type(getattr(module, name)), type(worth))
                    self.assertEqual(getattr(module, name), worth)

    def test_functions(self):
        for path, told in FUNCTIONS.items():
            module = importlib.import_module(path)
            defined = defined_in(module)
            for call in told.split():
                name, _, names = call.rstrip(")").partition("(")
                with self.subTest(path=path, name=name):
                    self.assertIn(name, defined)
                    parameters = inspect.signature(getattr(module, name)).parameters.values()
                    self.assertEqual([each.name for each in parameters], names.split(","))
                    for each in parameters:
                        self.assertIs(each.kind, inspect.Parameter.POSITIONAL_OR_KEYWORD)
                        self.assertIs(each.default, inspect.Parameter.empty)

    def test_classes(self):
        for (path, name), (names, properties, signs, methods) in CLASSES.items():
            module = importlib.import_module(path)
            with self.subTest(path=path, name=name):
                self.assertIn(name, defined_in(module))
                made = getattr(module, name)
                self.assertEqual(",".join(inspect.signature(made).parameters), names)
                own = vars(made)
                for each in properties.split():
                    self.assertIs(type(own[each]), property)
                for each in signs.split():
                    self.assertTrue(inspect.isfunction(own[each]))
                for each in methods.split():
                    self.takes_as_told(own, each)
                public = [each for each in own if not each.startswith("_")]
                told = properties.split() + [each.partition("(")[0] for each in methods.split()]
                self.assertEqual(sorted(public), sorted(told))

    def takes_as_told(self, own, told):
        name, _, names = told.rstrip(")").partition("(")
        parameters = list(inspect.signature(own[name]).parameters.values())
        shown = []
        for each in parameters[1:]:
            if each.kind is inspect.Parameter.KEYWORD_ONLY:
                shown.append(f"*{each.name}={each.default}")
            else:
                self.assertIs(each.kind, inspect.Parameter.POSITIONAL_OR_KEYWORD)
                self.assertIs(each.default, inspect.Parameter.empty)
                shown.append(each.name)
        self.assertEqual(",".join(shown), names)


if __name__ == "__main__":
    unittest.main()

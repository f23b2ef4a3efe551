"""The names, arguments and constants of the interface, each in the file of its heading."""

import ast
import importlib
import inspect
import unittest

CONSTANTS = {
    "hookstrips.base.numbers": {"MAX_NAME": 8, "MAX_TOP": 1000, "MAX_LISTED": 60, "MAX_TEXT": 4000},
    "hookstrips.base.polys": {"MAX_NUMBERS": 4000, "MAX_FACTOR": 400, "MAX_SERIES": 1000},
    "hookstrips.shape.rows": {"MAX_PARTS": 60, "MAX_PART": 200},
}

FUNCTIONS = {
    "hookstrips.base.numbers": (
        "is_integer(value) is_name(value) binomial(top,low) binomials(top) pentagonal(number) pentagonal_root(value)"
        " modulo_of(number,modulus) list_text(numbers) numbers_of_text(text)"
    ),
    "hookstrips.base.polys": (
        "is_poly(value) poly_of(numbers) degree_of(poly) coefficient(poly,at) added(one,other) less(one,other)"
        " multiplied(one,other) shifted(poly,many) scaled(poly,number) at_one(poly) at_minus_one(poly) cut(poly,size)"
        " times_factor(poly,step) over_factor(poly,step) over_factors_to(poly,many,size) is_balanced(poly)"
        " is_peaked(poly)"
    ),
    "hookstrips.shape.rows": (
        "is_row(value) size_of(row) turned(row) parts_of(row,part) has_square(row,value) hook_difference(row,r,c)"
        " squares_on(row,diagonal) hook_differences(row,diagonal) ranks(row) columns(row) row_of_columns(columns)"
        " put_together(one,other) is_inside(one,other)"
    ),
}


def defined_in(module):
    """The names that the file of a module defines by def and class."""
    with open(module.__file__, encoding="ascii") as file:
        tree = ast.parse(file.read())
    return [node.name for node in tree.body if isinstance(node, (ast.FunctionDef, ast.ClassDef))]


class Interface(unittest.TestCase):
    def test_constants(self):
        for path, constants in CONSTANTS.items():
            module = importlib.import_module(path)
            for name, worth in constants.items():
                with self.subTest(path=path, name=name):
                    self.assertIs(type(getattr(module, name)), int)
                    self.assertEqual(getattr(module, name), worth)

    def test_functions(self):
        for path, told in FUNCTIONS.items():
            module = importlib.import_module(path)
            defined = defined_in(module)
            for call in told.split():
                name, _, names = call.rstrip(")").partition("(")
                with self.subTest(path=path, name=name):
                    self.assertIn(name, defined)
                    parameters = inspect.signature(getattr(module, name)).parameters.values()
                    self.assertEqual([each.name for each in parameters], names.split(","))
                    for each in parameters:
                        self.assertIs(each.kind, inspect.Parameter.POSITIONAL_OR_KEYWORD)
                        self.assertIs(each.default, inspect.Parameter.empty)


if __name__ == "__main__":
    unittest.main()

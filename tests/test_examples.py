"""The examples of the document, word for word."""

import unittest

import hookstrips.base.numbers
import hookstrips.base.polys
import hookstrips.errors
import hookstrips.shape.rows

NUMBERS = """
>>> [is_name("Ab"), is_name("lattice"), is_integer(True), binomial(6, 2), binomial(6, 7), binomial(6, -1), binomials(5)]
[False, True, False, 15, 0, 0, (1, 5, 10, 10, 5, 1)]
>>> [[pentagonal(number) for number in (0, 1, -1, 2, -2)], pentagonal_root(7), pentagonal_root(6), modulo_of(-3, 5)]
[[0, 1, 2, 5, 7], -2, None, 2]
>>> [list_text((3, -1, 0)), list_text(()), numbers_of_text("12 -5"), numbers_of_text("-")]
['3 -1 0', '-', (12, -5), ()]
>>> numbers_of_text("1 02")
raises ParseError(2)
"""

POLYS = """
>>> [poly_of((1, 0, -2, 0, 0)), poly_of((0, 0)), is_poly((1, 0)), is_poly(()), degree_of(()), degree_of((0, 0, 5)), coefficient((1, 2), 1), coefficient((1, 2), 10 ** 20)]
[(1, 0, -2), (), False, True, -1, 2, 2, 0]
>>> [added((1, 2), (3, -2)), less((1, 2), (1, 2)), multiplied((1, 1), (1, -1)), multiplied((), (1, 1)), shifted((1, 1), 2), shifted((), 3), scaled((1, 2), 0)]
[(4,), (), (1, 0, -1), (), (0, 0, 1, 1), (), ()]
>>> [at_one((1, 1, 2, 1, 1)), at_minus_one((1, 1, 2, 1, 1)), cut((1, 1, 2, 1, 1), 2), cut((1,), 3), times_factor((1, 1, 1), 1), over_factor((1, 0, 0, -1), 1), over_factor((1, 0, -1, 0, -1, 0, 1), 2)]
[6, 2, (1, 1, 2), (1, 0, 0, 0), (1, 0, 0, -1), (1, 1, 1), (1, 0, 0, 0, -1)]
>>> [over_factors_to((1,), 2, 6), over_factors_to((1, 1), 0, 3), over_factors_to((0, 1), 1, 4), is_balanced((0, 2, 1, 2)), is_peaked((1, 1, 2, 1, 1)), is_peaked(multiplied((3, 1, 1), (3, 1, 1)))]
[(1, 1, 2, 2, 3, 3, 4), (1, 1, 0, 0), (0, 1, 1, 1, 1), True, True, False]
>>> over_factor((1, 1), 2)
raises InvalidOperation
"""

ROWS = """
>>> [turned((4, 2, 1)), turned(()), columns((4, 2, 1)), ranks((4, 2, 1)), ranks(()), row_of_columns(((3, 2), (0, 0))), row_of_columns(((0, 4),))]
[(3, 2, 1, 1), (), ((3, 2), (0, 0)), (1, 0), (), (4, 2, 1), (1, 1, 1, 1, 1)]
>>> [hook_difference((4, 2, 1), 1, 3), hook_difference((4, 2, 1), 3, 1), squares_on((4, 2, 1), -1), squares_on((5, 5, 1), -2), hook_differences((5, 5, 1), -2), squares_on((4, 2, 1), 3)]
[3, -2, ((1, 2),), ((1, 3), (2, 4)), (3, 3), ()]
>>> [has_square((4, 2, 1), (2, 2)), has_square((4, 2, 1), [2, 2]), put_together((4, 2, 1), (3, 2)), is_inside((2, 1), (4, 2, 1)), is_inside((3, 3), (4, 2, 1)), parts_of((3, 1, 1), 1)]
[True, False, (4, 3, 2, 2, 1), True, False, 2]
>>> row_of_columns(((2, 3), (2, 1)))
raises InvalidRow
"""

# Each text with the module to which its names belong.
TEXTS = (
    (NUMBERS, hookstrips.base.numbers),
    (POLYS, hookstrips.base.polys),
    (ROWS, hookstrips.shape.rows),
)


def pairs_of(text):
    """The pairs of an expression and of what is told of it."""
    lines = text.strip().split("\n")
    return [(asked.removeprefix(">>> "), told) for asked, told in zip(lines[::2], lines[1::2], strict=True)]


class Examples(unittest.TestCase):
    def test_results(self):
        for text, module in TEXTS:
            for asked, told in pairs_of(text):
                with self.subTest(asked=asked):
                    if told.startswith("raises "):
                        self.raises_as_told(asked, told.removeprefix("raises "), vars(module))
                    else:
                        self.assertEqual(repr(eval(asked, dict(vars(module)))), told)

    def raises_as_told(self, asked, told, names):
        errors = vars(hookstrips.errors)
        name = told.partition("(")[0]
        with self.assertRaises(errors[name]) as caught:
            eval(asked, dict(names))
        self.assertIs(type(caught.exception), errors[name])
        if told != name:
            self.assertEqual(vars(caught.exception), vars(eval(told, dict(errors))))

    def test_number_of_examples(self):
        self.assertEqual([len(pairs_of(text)) for text, _ in TEXTS], [4, 5, 4])


if __name__ == "__main__":
    unittest.main()

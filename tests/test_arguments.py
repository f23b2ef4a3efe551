"""Promises [0.1] to [0.5] and [0.7]: which arguments each function refuses, in which order, and with what error."""

import copy
import itertools
import unittest

from hookstrips.base import numbers, polys
from hookstrips.errors import (
    InvalidNumber, InvalidOperation, InvalidPoly, InvalidRow, ParseError, TooMany,
)
from hookstrips.shape import rows
from tests.samples import (
    EIGHT_DEEP, LONGEST, NO_INTEGERS, NO_INTEGERS_INSIDE, NO_STRINGS, NO_TUPLES, TOO_LONG,
)


class Place:
    """What a parameter takes: a right value, wrong ones, the values at its bounds, and the error."""

    def __init__(self, right, error, wrong, edges=()):
        self.right = right
        self.error = error
        self.wrong = wrong
        self.edges = edges

    def is_kept(self, error, value):
        if self.error is InvalidNumber:
            return error.given is value
        return self.error is not ParseError or error.spot == 0


def integer(right, least=-LONGEST, most=LONGEST):
    return Place(right, InvalidNumber, NO_INTEGERS + [least - 1, most + 1], (least, most))


def listing(right, most, error):
    wrong = NO_TUPLES + NO_INTEGERS_INSIDE + [(1,) * (most + 1)]
    return Place(right, error, wrong, ((), (1,) * most, (LONGEST, -LONGEST)))


def poly(right):
    wrong = NO_TUPLES + NO_INTEGERS_INSIDE + [(0,), (1, 0), (0, 0), (1, False), (1,) * 4001]
    return Place(right, InvalidPoly, wrong, ((), (0, 1), (1,) * 4000, (-LONGEST, LONGEST)))


def row(right):
    wrong = NO_TUPLES + NO_INTEGERS_INSIDE + [
        (0,), (1, 0), (-1,), (1, 2), (3, 1, 2), (201,), (201, 1), (LONGEST,), (1,) * 61, (200,) * 61, (1, True),
    ]
    return Place(right, InvalidRow, wrong, ((), (1,), (200,) * 60, (1,) * 60))


def column_pairs(right):
    falling = tuple((199 - at, 199 - at) for at in range(61))
    wrong = NO_TUPLES + NO_INTEGERS_INSIDE + [
        (1,), (1, 1), ([1, 1],), ((1,),), ((1, 1, 1),), ((),), ("11",), ((200, 1),), ((1, 200),), ((-1, 1),),
        ((1, -1),), ((True, 1),), ((1, False),), ((1, None),), (("1", 1),), ((1, 1), (0, 1)), ((1, 1), (1, 0)),
        ((0, 0), (1, 1)), ((3, 3), (2, 2), (2, 1)), ((TOO_LONG, 1),), (((1, 1),),), ((1, 1), None), falling,
    ]
    return Place(right, InvalidRow, wrong, ((), ((0, 0),), ((199, 0),), ((0, 199),), falling[:60]))


def text(right):
    return Place(right, ParseError, NO_STRINGS + ["1" * 4001, "1 " * 2001, "x", ""], ("-", "0"))


LISTED = listing((3, -1), 60, InvalidOperation)
SQUARE_SIDE = integer(2, 1, 200)

CALLS = (
    (numbers.binomial, (integer(6, 0, 1000), integer(2))),
    (numbers.binomials, (integer(6, 0, 1000),)),
    (numbers.pentagonal, (integer(6),)),
    (numbers.pentagonal_root, (integer(6),)),
    (numbers.modulo_of, (integer(6), integer(5, 1, 1000))),
    (numbers.list_text, (LISTED,)),
    (numbers.numbers_of_text, (text("1 2"),)),
    (polys.poly_of, (listing((1, 0), 4000, InvalidPoly),)),
    (polys.degree_of, (poly((1, 2)),)),
    (polys.coefficient, (poly((1, 2)), integer(1, 0))),
    (polys.added, (poly((1, 2)), poly((3,)))),
    (polys.less, (poly((1, 2)), poly((3,)))),
    (polys.multiplied, (poly((1, 2)), poly((3,)))),
    (polys.shifted, (poly((1, 2)), integer(3, 0, 4000))),
    (polys.scaled, (poly((1, 2)), integer(3))),
    (polys.at_one, (poly((1, 2)),)),
    (polys.at_minus_one, (poly((1, 2)),)),
    (polys.cut, (poly((1, 2)), integer(3, 0, 1000))),
    (polys.times_factor, (poly((1, 2)), integer(3, 1, 400))),
    (polys.over_factor, (poly((1, 0, 0, -1)), integer(3, 1, 400))),
    (polys.over_factors_to, (poly((1, 2)), integer(2, 0, 400), integer(4, 0, 1000))),
    (polys.is_balanced, (poly((1, 2)),)),
    (polys.is_peaked, (poly((1, 2)),)),
    (rows.size_of, (row((2, 1)),)),
    (rows.turned, (row((2, 1)),)),
    (rows.parts_of, (row((2, 1)), integer(1, 1, 200))),
    (rows.has_square, (row((2, 1)), None)),
    (rows.hook_difference, (row((2, 2)), SQUARE_SIDE, SQUARE_SIDE)),
    (rows.squares_on, (row((2, 1)), integer(0, -200, 200))),
    (rows.hook_differences, (row((2, 1)), integer(0, -200, 200))),
    (rows.ranks, (row((2, 1)),)),
    (rows.columns, (row((2, 1)),)),
    (rows.row_of_columns, (column_pairs(((1, 1),)),)),
    (rows.put_together, (row((2, 1)), row((1,)))),
    (rows.is_inside, (row((2, 1)), row((1,)))),
)


def right_values(places):
    return [(1, 1) if place is None else place.right for place in places]


class Arguments(unittest.TestCase):
    def refuses(self, call, values, place, value):
        before = copy.deepcopy([given for given in values if isinstance(given, (list, dict))])
        with self.subTest(call=call.__name__, values=str(values)[:200]):
            with self.assertRaises(place.error) as caught:
                call(*values)
            self.assertIs(type(caught.exception), place.error)
            self.assertTrue(place.is_kept(caught.exception, value))
            self.assertEqual([given for given in values if isinstance(given, (list, dict))], before)

    def test_each_wrong_value(self):
        for call, places in CALLS:
            for at, place in enumerate(places):
                for value in place.wrong if place else ():
                    values = right_values(places)
                    values[at] = value
                    self.refuses(call, values, place, value)

    def test_the_first_one_of_two_wrong_values(self):
        for call, places in CALLS:
            for at, behind in itertools.combinations(range(len(places)), 2):
                if places[behind] is None:
                    continue
                for value, further in itertools.product(places[at].wrong, places[behind].wrong):
                    values = right_values(places)
                    values[at], values[behind] = value, further
                    self.refuses(call, values, places[at], value)

    def test_edges_are_accepted(self):
        for call, places in CALLS:
            for at, place in enumerate(places):
                for value in place.edges if place else ():
                    values = right_values(places)
                    values[at] = value
                    with self.subTest(call=call.__name__, at=at, value=str(value)[:50]):
                        try:
                            first = call(*values)
                        except (InvalidOperation, TooMany) as error:
                            # These come behind the check of the arguments.
                            self.assertIsNot(type(error), place.error)
                        else:
                            self.assertEqual(first, call(*values))

    def test_added_errors_come_last(self):
        with self.assertRaises(InvalidNumber) as caught:
            rows.hook_difference((2, 1), 5, 0)
        self.assertEqual(caught.exception.given, 0)
        with self.assertRaises(InvalidNumber) as caught:
            polys.over_factor((1, 1), 401)
        self.assertEqual(caught.exception.given, 401)
        with self.assertRaises(InvalidPoly):
            polys.multiplied((1,) * 4000, (1, 0))
        with self.assertRaises(InvalidNumber) as caught:
            polys.shifted((1,) * 4000, 4001)
        self.assertEqual(caught.exception.given, 4001)

    def test_is_functions_accept_every_value(self):
        values = NO_INTEGERS + NO_TUPLES + NO_INTEGERS_INSIDE + NO_STRINGS + [EIGHT_DEEP, [EIGHT_DEEP], {1: [()]}]
        for value in values + [(1,) * 5000, "a" * 4000, [[]] * 100]:
            for call in (numbers.is_integer, numbers.is_name, polys.is_poly, rows.is_row):
                with self.subTest(call=call.__name__, value=str(value)[:50]):
                    self.assertIs(type(call(value)), bool)
            with self.subTest(call="has_square", value=str(value)[:50]):
                self.assertIs(rows.has_square((200,) * 60, value), False)


if __name__ == "__main__":
    unittest.main()

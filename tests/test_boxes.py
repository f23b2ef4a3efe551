"""Promises [0.10] and [4.1] to [4.6]: boxes, held against listed rows and against borders of squares."""

import inspect
import itertools
import math
import unittest

from hookstrips.errors import InvalidNumber, InvalidOperation, InvalidWord, TooMany
from hookstrips.shape.boxes import (
    Box, box_rows, greater_rows, is_rim, lesser_rows, place_of, rest_of, rim_of, row_at, row_of_rim,
)
from tests.samples import FIVE, FOUR, NO_OBJECTS, STRIP, rows_in_box, rows_to_size, squares, turned_by_squares

SIDES = list(itertools.product(range(5), repeat=2)) + [(6, 2), (2, 6), (7, 1), (1, 7), (0, 9), (9, 0)]
GREAT = [(40, 40), (40, 0), (0, 40), (40, 1), (1, 40), (40, 17), (23, 40)]


def rim_by_border(wide, high, row):
    """The rim, by going along the border: to the right where a square lies above, else up."""
    there = squares(row)
    c, r, letters = 0, high, ""
    while c < wide or r > 0:
        if r == 0 or (r, c + 1) in there:
            letters, c = letters + "e", c + 1
        else:
            letters, r = letters + "n", r - 1
    return letters


def pairs_e_ahead_of_n(rim):
    return len([1 for one, other in itertools.combinations(rim, 2) if one + other == "en"])


class Boxes(unittest.TestCase):
    def test_sides_and_numbers(self):
        for wide, high in SIDES:
            box = Box(wide, high)
            self.assertEqual((box.wide, box.high), (wide, high))
            self.assertEqual(box.number, len(rows_in_box(wide, high)))
            self.assertEqual(str(box), "box " + str(wide) + " wide, " + str(high) + " high")
        for wide, high in GREAT:
            self.assertEqual(Box(wide, high).number, math.comb(wide + high, wide))

    def test_sides_at_their_bounds(self):
        for wide, high, wrong in ((-1, 3, -1), (41, 3, 41), (3, -1, -1), (3, 41, 41), (41, -1, 41), (True, 3, True)):
            with self.assertRaises(InvalidNumber) as caught:
                Box(wide, high)
            self.assertIs(caught.exception.given, wrong)

    def test_turned_box(self):
        for wide, high in SIDES + GREAT:
            other = Box(wide, high).turned_box
            self.assertIs(type(other), Box)
            self.assertEqual((other.wide, other.high), (high, wide))
            self.assertTrue(other.turned_box == Box(wide, high))

    def test_equal_boxes(self):
        for (wide, high), (broad, tall) in itertools.product(SIDES, SIDES):
            same = (wide, high) == (broad, tall)
            self.assertIs(Box(wide, high) == Box(broad, tall), same)
            self.assertIs(Box(wide, high) != Box(broad, tall), not same)
        for value in NO_OBJECTS:
            if not isinstance(value, Box):
                self.assertIs(FOUR == value, False)
                self.assertIs(FOUR != value, True)

    def test_boxes_never_change(self):
        box = Box(4, 3)
        for name in ("wide", "high", "number", "turned_box"):
            with self.assertRaises(AttributeError):
                setattr(box, name, 2)
        self.assertEqual((box.wide, box.high, box.number), (4, 3, 35))

    def test_boxes_are_not_iterated_over(self):
        with self.assertRaises(TypeError):
            list(FOUR)
        with self.assertRaises(TypeError):
            iter(Box(0, 0))

    def test_rows_in_boxes(self):
        for wide, high in SIDES:
            told = [row for row in rows_to_size(11) if row in Box(wide, high)]
            self.assertEqual(set(told), {row for row in rows_in_box(wide, high) if sum(row) <= 11})

    def test_values_that_are_no_rows_in_a_box(self):
        for value in ([1], (0,), (1, 2), (True,), "1", None, 1, ((1,),), (1, None), {1: 1}, FOUR, FIVE, STRIP):
            self.assertIs(value in Box(40, 40), False)
            self.assertIs(value not in Box(40, 40), True)
        self.assertIs((40,) * 40 in Box(40, 40), True)
        self.assertIs((41,) in Box(40, 40), False)
        self.assertIs((1,) * 41 in Box(40, 40), False)
        self.assertIs(() in Box(0, 0), True)
        self.assertIs((1,) in Box(0, 5), False)


class Rims(unittest.TestCase):
    def test_rims_by_borders(self):
        for wide, high in SIDES:
            box = Box(wide, high)
            for row in rows_in_box(wide, high):
                rim = rim_by_border(wide, high, row)
                self.assertEqual(rim_of(box, row), rim)
                self.assertEqual(row_of_rim(box, rim), row)
                self.assertEqual(sum(row), pairs_e_ahead_of_n(rim))
                turned = turned_by_squares(row)
                self.assertIn(turned, box.turned_box)
                flipped = "".join("e" if letter == "n" else "n" for letter in rim[::-1])
                self.assertEqual(rim_of(box.turned_box, turned), flipped)

    def test_each_string_is_the_rim_of_one_row(self):
        for wide, high in SIDES[:20]:
            box = Box(wide, high)
            strings = {"".join(each) for each in itertools.permutations("e" * wide + "n" * high)} if high < 4 else {}
            rows = [row_of_rim(box, rim) for rim in strings]
            if strings:
                self.assertEqual(len(set(rows)), len(strings))
                self.assertEqual(set(rows), rows_in_box(wide, high))

    def test_rims_at_the_edges(self):
        for wide, high in SIDES + GREAT:
            box = Box(wide, high)
            self.assertEqual(rim_of(box, ()), "n" * high + "e" * wide)
            full = (wide,) * high if wide else ()
            self.assertEqual(rim_of(box, full), "e" * wide + "n" * high)
            self.assertEqual(row_of_rim(box, "e" * wide + "n" * high), full)
            self.assertEqual(row_of_rim(box, "n" * high + "e" * wide), ())

    def test_what_is_a_rim(self):
        for wide, high in SIDES[:20]:
            box = Box(wide, high)
            for many in range(wide + high + 2):
                for letters in itertools.product("en", repeat=many) if many < 8 else ():
                    value = "".join(letters)
                    right = value.count("e") == wide and value.count("n") == high
                    self.assertIs(is_rim(box, value), right)
                    if not right:
                        with self.assertRaises(InvalidWord):
                            row_of_rim(box, value)
        for value in ("eeeennnx", "EEEENNNN", "eeeennnn ", "", ("e",) * 8, list("eeeennnn"), None, 8):
            self.assertIs(is_rim(FOUR, value), False)

    def test_rows_that_are_not_in_the_box(self):
        for call in (rim_of, place_of, rest_of, greater_rows, lesser_rows):
            for row in ((5,), (5, 1), (1,) * 5, (200,) * 60):
                with self.assertRaises(InvalidOperation):
                    call(FOUR, row)
            with self.assertRaises(InvalidOperation):
                call(Box(0, 0), (1,))


class Sequence(unittest.TestCase):
    def test_rows_stand_by_their_rims(self):
        for wide, high in SIDES:
            box = Box(wide, high)
            told = sorted(rows_in_box(wide, high), key=lambda row: rim_by_border(wide, high, row))
            self.assertEqual(list(box_rows(box)), told)
            self.assertEqual([row_at(box, place) for place in range(box.number)], told)
            self.assertEqual([place_of(box, row) for row in told], list(range(box.number)))

    def test_great_boxes_there_and_back(self):
        for wide, high in GREAT:
            box = Box(wide, high)
            last = box.number - 1
            for place in {0, 1, 2, last // 3, last // 2, last // 2 + 1, last - 1, last}:
                if not 0 <= place <= last:
                    continue
                row = row_at(box, place)
                self.assertIn(row, box)
                self.assertEqual(place_of(box, row), place)
                if place < last:
                    self.assertLess(rim_of(box, row), rim_of(box, row_at(box, place + 1)))
            self.assertEqual(row_at(box, 0), (wide,) * high if wide else ())
            self.assertEqual(row_at(box, last), ())

    def test_places_at_their_bounds(self):
        for wide, high in SIDES + GREAT:
            box = Box(wide, high)
            for place in (-1, box.number, box.number + 5):
                with self.assertRaises(InvalidNumber) as caught:
                    row_at(box, place)
                self.assertEqual(caught.exception.given, place)

    def test_5000_rows_and_more(self):
        for wide, high in ((3, 29), (29, 3), (4, 16), (40, 2), (0, 40), (40, 0), (1, 40)):
            box = Box(wide, high)
            told = list(box_rows(box))
            self.assertEqual(len(told), box.number)
            self.assertLessEqual(box.number, 5000)
            self.assertEqual(set(told), rows_in_box(wide, high))
        # 5005 rows.
        for wide, high in ((9, 6), (6, 9), (3, 30), (40, 40)):
            with self.assertRaises(TooMany) as caught:
                next(box_rows(Box(wide, high)))
            self.assertEqual(caught.exception.limit, 5000)

    def test_box_rows_is_a_generator(self):
        made = box_rows(Box(9, 6))
        self.assertTrue(inspect.isgenerator(made))
        made = box_rows(FOUR)
        self.assertEqual([next(made), next(made)], [(4, 4, 4, 4), (4, 4, 4, 3)])
        self.assertEqual(len(list(made)), 68)

    def test_sizes_need_not_fall(self):
        sizes = [sum(row) for row in box_rows(FOUR)]
        self.assertNotEqual(sizes, sorted(sizes, reverse=True))

    def test_a_row_need_not_be_in_the_turned_box(self):
        self.assertIn((4,), Box(4, 1))
        self.assertNotIn((4,), Box(4, 1).turned_box)


class RestsAndNeighbours(unittest.TestCase):
    def test_rests(self):
        for wide, high in SIDES:
            box = Box(wide, high)
            for row in rows_in_box(wide, high):
                rest = rest_of(box, row)
                full = row + (0,) * (high - len(row))
                self.assertEqual(rest, tuple(wide - part for part in full[::-1] if part < wide))
                self.assertEqual(rim_of(box, rest), rim_by_border(wide, high, row)[::-1])
                self.assertEqual(sum(row) + sum(rest), wide * high)
                self.assertEqual(rest_of(box, rest), row)

    def test_neighbours_by_squares(self):
        for wide, high in SIDES:
            box = Box(wide, high)
            rows = rows_in_box(wide, high)
            for row in rows:
                there = squares(row)
                more = [each for each in rows if there < squares(each) and len(squares(each) - there) == 1]
                self.assertEqual(greater_rows(box, row), tuple(sorted(more)))
                fewer = [each for each in rows if row in greater_rows(box, each)]
                self.assertEqual(lesser_rows(box, row), tuple(sorted(fewer)))

    def test_neighbours_by_rims(self):
        for wide, high in ((4, 4), (3, 5), (5, 2)):
            box = Box(wide, high)
            for row in rows_in_box(wide, high):
                rim = rim_by_border(wide, high, row)
                pairs = [(rim[:at], rim[at:at + 2], rim[at + 2:]) for at in range(len(rim) - 1)]
                more = [row_of_rim(box, ahead + "en" + behind) for ahead, pair, behind in pairs if pair == "ne"]
                fewer = [row_of_rim(box, ahead + "ne" + behind) for ahead, pair, behind in pairs if pair == "en"]
                self.assertEqual(greater_rows(box, row), tuple(sorted(more)))
                self.assertEqual(lesser_rows(box, row), tuple(sorted(fewer)))

    def test_each_row_comes_from_the_empty_one_by_steps(self):
        for wide, high in ((4, 3), (2, 5), (0, 3), (3, 0)):
            box = Box(wide, high)
            level = {()}
            for size in range(wide * high + 1):
                self.assertEqual(level, {row for row in rows_in_box(wide, high) if sum(row) == size})
                level = {other for row in level for other in greater_rows(box, row)}
            self.assertEqual(level, set())

    def test_neighbours_at_the_edges(self):
        self.assertEqual(greater_rows(Box(0, 0), ()), ())
        self.assertEqual(greater_rows(Box(0, 5), ()), ())
        self.assertEqual(greater_rows(Box(5, 0), ()), ())
        self.assertEqual(greater_rows(Box(40, 40), ()), ((1,),))
        self.assertEqual(greater_rows(Box(40, 40), (40,) * 40), ())
        self.assertEqual(lesser_rows(Box(40, 40), (40,) * 40), ((40,) * 39 + (39,),))
        self.assertEqual(lesser_rows(Box(40, 40), ()), ())
        self.assertEqual(lesser_rows(Box(1, 1), (1,)), ((),))


if __name__ == "__main__":
    unittest.main()

"""Promises [0.19] and [11.1] to [11.6]: walks, held against all walks listed step by step."""

import inspect
import itertools
import math
import unittest

from hookstrips.diagonal.bounds import Bounds, has_window
from hookstrips.diagonal.sums import sum_poly
from hookstrips.errors import InvalidNumber, InvalidOperation, InvalidWalk, Refused, TooMany
from hookstrips.shape.boxes import Box
from hookstrips.walled.walks import (
    Strip, doubled_weight, has_walks, is_walk, least_weight, lightest_walk, mirrored_walk, place_of, rise_of,
    sum_of_walks, walk_at, walks, walks_number, walks_of_sum, walks_poly,
)
from tests.bounded import BOUNDS, in_window
from tests.samples import FIVE, NO_INTEGERS_INSIDE, NO_OBJECTS, NO_TUPLES, STRIP, counted

STRIPS = [(walls, Strip(walls)) for walls in (3, 4, 5, 6, 12)]


def listed(walls, first, steps, last, goal):
    """All walks, ascending: each choice of ups and downs that stays in the strip."""
    found = []
    for ways in itertools.product((-1, 1), repeat=steps):
        heights = tuple(itertools.accumulate((first,) + ways))
        if heights[-1] == last and all(0 < height < walls for height in heights):
            found.append(heights + (goal,))
    return sorted(found)


def weight(walk):
    """The doubled weight: j counts where the steps to and from h(j) have one sign."""
    ways = [after - height for height, after in zip(walk, walk[1:])]
    return sum(j for j in range(1, len(ways)) if ways[j - 1] == ways[j])


def rise(walk):
    a, b, c = walk[0], walk[-2], walk[-1]
    return (weight(walk) - (a - b) * (a - c) // 2) // 2


def told_walks(most):
    """The strips and all that tells walks of at most so many steps in them."""
    told = []
    for walls, strip in STRIPS:
        heights = range(1, walls)
        for first, steps, last, goal in itertools.product(heights, range(most + 1), heights, heights):
            if abs(last - goal) == 1 and (walls < 12 or steps < 5 and first in (1, 2, 6, 11)):
                told.append((walls, strip, (first, steps, last, goal)))
    return told


TOLD = told_walks(6)
LISTED = [(walls, strip, told, listed(walls, *told)) for walls, strip, told in TOLD]


class Strips(unittest.TestCase):
    def test_strips(self):
        for walls in range(3, 13):
            strip = Strip(walls)
            self.assertEqual((strip.walls, strip.highest), (walls, walls - 1))
            self.assertEqual(str(strip), "strip 1 to " + str(walls - 1))
            for other in range(3, 13):
                self.assertIs(strip == Strip(other), walls == other)
                self.assertIs(strip != Strip(other), walls != other)
        for walls in (2, 13, 0, -3, True, None):
            with self.assertRaises(InvalidNumber) as caught:
                Strip(walls)
            self.assertIs(caught.exception.given, walls)

    def test_strips_are_no_other_values_and_never_change(self):
        for value in NO_OBJECTS:
            if not isinstance(value, Strip):
                self.assertIs(STRIP == value, False)
                self.assertIs(STRIP != value, True)
        strip = Strip(5)
        for name in ("walls", "highest"):
            with self.assertRaises(AttributeError):
                setattr(strip, name, 4)
        self.assertTrue(strip == STRIP)
        with self.assertRaises(TypeError):
            iter(strip)


class Walks(unittest.TestCase):
    def test_what_is_a_walk(self):
        for walls, strip in STRIPS[:4]:
            for many in range(5):
                for heights in itertools.product(range(-1, walls + 2), repeat=many):
                    inside = all(0 < height < walls for height in heights)
                    near = all(abs(one - other) == 1 for one, other in zip(heights, heights[1:]))
                    self.assertIs(is_walk(strip, heights), many >= 2 and inside and near)

    def test_values_that_are_no_walks(self):
        wrong = [[1, 2], "12", (1, 2, None), (True, 2), (2, True), (1, (2,)), ((1, 2),), 12, {1: 2}, FIVE]
        for value in NO_TUPLES + NO_INTEGERS_INSIDE + wrong:
            self.assertIs(is_walk(STRIP, value), False)

    def test_walks_of_any_length(self):
        self.assertIs(is_walk(STRIP, (1, 2) * 500), True)
        self.assertIs(is_walk(STRIP, (1, 2) * 500 + (2,)), False)
        for call in (doubled_weight, rise_of, place_of, mirrored_walk):
            call(STRIP, (1, 2) * 31)
            for walk in ((1, 2) * 31 + (1,), (1, 2) * 32):
                self.assertIs(is_walk(STRIP, walk), True)
                with self.assertRaises(InvalidWalk):
                    call(STRIP, walk)

    def test_weights(self):
        for _, strip, told, found in LISTED:
            first, _, last, goal = told
            for walk in found:
                self.assertEqual(doubled_weight(strip, walk), weight(walk))
                self.assertEqual(rise_of(strip, walk), rise(walk))
                above = weight(walk) - least_weight(strip, first, last, goal)
                self.assertEqual(above, 2 * rise(walk))
                self.assertGreaterEqual(above, 0)

    def test_least_weights(self):
        for walls, strip in STRIPS:
            for a, b, c in itertools.product(range(1, walls), repeat=3):
                if abs(b - c) == 1:
                    self.assertEqual(2 * least_weight(strip, a, b, c), (a - b) * (a - c))
                else:
                    with self.assertRaises(InvalidNumber) as caught:
                        least_weight(strip, a, b, c)
                    self.assertEqual(caught.exception.given, c)

    def test_heights_in_and_out_of_the_strip(self):
        for walls, strip in STRIPS:
            top = walls - 1
            for a, b, c, wrong in (
                (0, 1, 2, 0), (walls, 1, 2, walls), (1, 0, 1, 0), (1, walls, top, walls), (1, 1, 0, 0),
                (1, top, walls, walls), (0, 0, 0, 0), (1, 1, 1, 1), (1, 1, 3, 3), (top, 2, 2, 2), (-1, 9, 9, -1),
            ):
                with self.assertRaises(InvalidNumber) as caught:
                    least_weight(strip, a, b, c)
                self.assertEqual(caught.exception.given, wrong)
                for call in (has_walks, walks_number, walks_poly, lightest_walk, sum_of_walks):
                    with self.assertRaises(InvalidNumber) as caught:
                        call(strip, a, 4, b, c)
                    self.assertEqual(caught.exception.given, wrong)

    def test_not_all_doubled_weights_are_even(self):
        self.assertEqual(doubled_weight(STRIP, (1, 2, 3)), 1)

    def test_backwards(self):
        self.assertEqual(doubled_weight(STRIP, (1, 2, 3, 2)), 1)
        self.assertEqual(doubled_weight(STRIP, (2, 3, 2, 1)), 2)


class Listed(unittest.TestCase):
    def test_whether_there_are_walks(self):
        for walls, strip, told, found in LISTED:
            first, steps, last, goal = told
            far = abs(first - last)
            self.assertIs(has_walks(strip, *told), found != [])
            self.assertIs(has_walks(strip, *told), steps >= far and (steps - far) % 2 == 0)

    def test_walks_and_their_number(self):
        for walls, strip, told, found in LISTED:
            self.assertEqual(list(walks(strip, *told)), found)
            self.assertEqual(walks_number(strip, *told), len(found))
            self.assertEqual(walks_poly(strip, *told), counted(rise(walk) for walk in found))

    def test_there_and_back(self):
        for walls, strip, told, found in LISTED:
            for place, walk in enumerate(found):
                self.assertEqual(walk_at(strip, *told, place), walk)
                self.assertEqual(place_of(strip, walk), place)
            for place in (-1, len(found), len(found) + 1):
                with self.assertRaises(InvalidNumber) as caught:
                    walk_at(strip, *told, place)
                self.assertEqual(caught.exception.given, place)

    def test_lightest_walks(self):
        for walls, strip, told, found in LISTED:
            lightest = [walk for walk in found if rise(walk) == 0]
            self.assertEqual(len(lightest), 1 if found else 0)
            self.assertEqual(lightest_walk(strip, *told), lightest[0] if found else None)

    def test_mirrored_walks(self):
        for walls, strip, told, found in LISTED:
            for walk in found:
                other = mirrored_walk(strip, walk)
                self.assertEqual(other, tuple(walls - height for height in walk))
                self.assertEqual(rise_of(strip, other), rise(walk))
                self.assertEqual(mirrored_walk(strip, other), walk)

    def test_walks_is_a_generator(self):
        made = walks(STRIP, 2, 8, 2, 3)
        self.assertTrue(inspect.isgenerator(made))
        self.assertEqual(next(made), (2, 1, 2, 1, 2, 1, 2, 1, 2, 3))
        self.assertEqual(next(made), (2, 1, 2, 1, 2, 1, 2, 3, 2, 3))
        self.assertTrue(inspect.isgenerator(walks(STRIP, 2, 60, 2, 3)))

    def test_without_steps(self):
        self.assertEqual(list(walks(STRIP, 2, 0, 2, 3)), [(2, 3)])
        self.assertEqual(list(walks(STRIP, 2, 0, 3, 2)), [])
        self.assertEqual(walks_poly(STRIP, 2, 0, 2, 1), (1,))
        self.assertEqual(walks_poly(STRIP, 2, 0, 1, 2), ())
        self.assertEqual((walks_number(STRIP, 2, 0, 2, 1), walks_number(STRIP, 2, 0, 1, 2)), (1, 0))
        self.assertEqual((lightest_walk(STRIP, 2, 0, 2, 1), lightest_walk(STRIP, 2, 0, 1, 2)), ((2, 1), None))


class ManySteps(unittest.TestCase):
    def test_numbers_of_steps_at_their_bounds(self):
        for call in (has_walks, walks_poly, lightest_walk, sum_of_walks):
            call(STRIP, 2, 60, 2, 3)
            for steps in (-1, 61):
                with self.assertRaises(InvalidNumber) as caught:
                    call(STRIP, 2, steps, 2, 3)
                self.assertEqual(caught.exception.given, steps)
        for steps in (-1, 61):
            with self.assertRaises(InvalidNumber) as caught:
                next(walks(STRIP, 2, steps, 2, 3))
            self.assertEqual(caught.exception.given, steps)
            with self.assertRaises(InvalidNumber) as caught:
                walk_at(STRIP, 2, steps, 2, 3, 0)
            self.assertEqual(caught.exception.given, steps)
        for steps in (-1, 10001):
            with self.assertRaises(InvalidNumber) as caught:
                walks_number(STRIP, 2, steps, 2, 3)
            self.assertEqual(caught.exception.given, steps)

    def test_far_steps(self):
        # Between four walls the walks from 2 come back to 2 by each second step in two ways.
        self.assertEqual(walks_number(Strip(4), 2, 10000, 2, 3), 2 ** 5000)
        self.assertEqual(walks_number(Strip(4), 2, 9999, 2, 3), 0)
        self.assertEqual(walks_number(Strip(3), 1, 10000, 1, 2), 1)
        fibonacci = [0, 1]
        while len(fibonacci) < 10002:
            fibonacci.append(fibonacci[-1] + fibonacci[-2])
        self.assertEqual(walks_number(STRIP, 2, 10000, 2, 3), fibonacci[10001])
        self.assertEqual(walks_number(STRIP, 1, 61, 2, 3), fibonacci[61])

    def test_numbers_by_free_walks(self):
        # Walks that cross a wall are taken away by those to the mirrored ends.
        for walls, first, steps, last in ((12, 5, 60, 7), (12, 11, 60, 1), (7, 2, 41, 3), (3, 1, 60, 1)):
            free = 0
            for u in range(-60, 61):
                for sign, end in ((1, last + 2 * walls * u), (-1, 2 * walls * u - last)):
                    ups = (steps + end - first) // 2
                    free += sign * (math.comb(steps, ups) if 0 <= ups <= steps else 0)
            goal = last + 1 if last + 1 < walls else last - 1
            self.assertEqual(walks_number(Strip(walls), first, steps, last, goal), free)

    def test_2000_walks_and_more(self):
        # In no strip are there 1989 to 2000 walks.
        self.assertEqual(len(list(walks(Strip(9), 1, 15, 4, 5))), 1988)
        for strip, told, number in ((Strip(10), (1, 15, 4, 5), 2001), (Strip(4), (2, 22, 2, 3), 2048)):
            self.assertEqual(walks_number(strip, *told), number)
            with self.assertRaises(TooMany) as caught:
                next(walks(strip, *told))
            self.assertEqual(caught.exception.limit, 2000)
        told = list(walks(Strip(12), 5, 12, 5, 6))
        self.assertEqual(told, listed(12, 5, 12, 5, 6))
        self.assertEqual(len(list(walks(STRIP, 2, 16, 2, 1))), 1597)

    def test_indices_of_long_walks(self):
        for walls, strip in STRIPS:
            number = walks_number(strip, 2, 60, 2, 1)
            places = {0, 1, number // 3, number // 2, number - 2, number - 1}
            places = [place for place in sorted(places) if 0 <= place < number]
            told = [walk_at(strip, 2, 60, 2, 1, place) for place in places]
            self.assertEqual(told, sorted(told))
            for place, walk in zip(places, told):
                self.assertEqual(len(walk), 62)
                self.assertTrue(is_walk(strip, walk))
                self.assertEqual(place_of(strip, walk), place)
            with self.assertRaises(InvalidNumber):
                walk_at(strip, 2, 60, 2, 1, number)


class Sums(unittest.TestCase):
    def test_as_told(self):
        for walls, strip, told, found in LISTED:
            first, steps, last, goal = told
            if not found:
                with self.assertRaises(InvalidOperation):
                    sum_of_walks(strip, *told)
                continue
            bounds, box = sum_of_walks(strip, *told)
            beta = min(last, goal)
            self.assertTrue(bounds == Bounds(walls, first, walls - 1 - beta, beta))
            self.assertTrue(box == Box((steps + last - first) // 2, (steps - last + first) // 2))
            self.assertTrue(has_window(bounds, box))
            self.assertEqual(sum_poly(bounds, box), counted(rise(walk) for walk in found))
            self.assertEqual(walks_of_sum(bounds, box), told)

    def test_long_walks(self):
        for walls, strip in STRIPS:
            for first, steps, last, goal in ((1, 60, 1, 2), (2, 59, 1, 2), (walls - 1, 60, walls - 1, walls - 2)):
                bounds, box = sum_of_walks(strip, first, steps, last, goal)
                poly = walks_poly(strip, first, steps, last, goal)
                self.assertEqual(sum_poly(bounds, box), poly)
                self.assertEqual(sum(poly), walks_number(strip, first, steps, last, goal))
                self.assertEqual(poly[0], 1)
                self.assertEqual(rise_of(strip, lightest_walk(strip, first, steps, last, goal)), 0)

    def test_mirrored_walks_have_turned_bounds(self):
        for walls, strip, told, found in LISTED:
            first, steps, last, goal = told
            if found:
                bounds, box = sum_of_walks(strip, *told)
                mirrored = sum_of_walks(strip, walls - first, steps, walls - last, walls - goal)
                self.assertTrue(mirrored == (bounds.turned_bounds, box.turned_box))

    def test_walks_of_sums(self):
        everything = BOUNDS + [((17, 5, 9, 7), Bounds(17, 5, 9, 7)), ((13, 12, 1, 11), Bounds(13, 12, 1, 11))]
        for told, bounds in everything:
            modulus, first, alpha, beta = told
            for wide, high in [*itertools.product(range(5), repeat=2), (40, 40), (39, 40), (40, 0), (0, 40)]:
                box = Box(wide, high)
                if alpha + beta != modulus - 1:
                    with self.assertRaises(InvalidOperation):
                        walks_of_sum(bounds, box)
                elif not in_window(told, wide, high):
                    with self.assertRaises(Refused) as caught:
                        walks_of_sum(bounds, box)
                    self.assertEqual(caught.exception.reason, ("window",))
                else:
                    self.from_one_tuple(told, bounds, box)

    def from_one_tuple(self, told, bounds, box):
        modulus, _, _, beta = told
        first, steps, last, goal = walks_of_sum(bounds, box)
        self.assertEqual((first, steps), (told[1], box.wide + box.high))
        self.assertEqual(last - first, box.wide - box.high)
        self.assertEqual(sorted((last, goal)), [beta, beta + 1])
        if modulus <= 12 and steps <= 60:
            self.assertTrue(sum_of_walks(Strip(modulus), first, steps, last, goal) == (bounds, box))

    def test_more_walls_and_more_steps_than_a_strip_has(self):
        self.assertEqual(walks_of_sum(Bounds(17, 8, 8, 8), Box(40, 40)), (8, 80, 8, 9))
        self.assertEqual(walks_of_sum(Bounds(17, 9, 8, 8), Box(40, 40)), (9, 80, 9, 8))
        self.assertEqual(walks_of_sum(Bounds(3, 1, 1, 1), Box(40, 40)), (1, 80, 1, 2))


if __name__ == "__main__":
    unittest.main()

"""Promises [1.3] to [1.5], and what an integer and a name are."""

import itertools
import unittest

from hookstrips.base.numbers import (
    binomial, binomials, is_integer, is_name, list_text, modulo_of, numbers_of_text, pentagonal, pentagonal_root,
)
from hookstrips.errors import InvalidNumber, InvalidOperation, ParseError
from tests.samples import LONGEST, NO_INTEGERS, NO_STRINGS, TOO_LONG


class IntegersAndNames(unittest.TestCase):
    def test_integers(self):
        for value in (0, 1, -1, 7, LONGEST, -LONGEST):
            self.assertIs(is_integer(value), True)
        self.assertEqual(len(str(LONGEST)), 60)

    def test_no_integers(self):
        for value in NO_INTEGERS:
            with self.subTest(value=value):
                self.assertIs(is_integer(value), False)

    def test_names(self):
        for value in ("a", "z", "lattice", "abcdefgh", "zzzzzzzz"):
            self.assertIs(is_name(value), True)
        for letter in "abcdefghijklmnopqrstuvwxyz":
            self.assertIs(is_name(letter), True)

    def test_no_names(self):
        for value in ("", "abcdefghi", "Ab", "aB", "A", "a1", "1", "a b", " a", "a ", "a\n", "a-b", "a_b", "`", "{"):
            with self.subTest(value=value):
                self.assertIs(is_name(value), False)
        for value in NO_STRINGS + [["a"], ("a",), {"a": "a"}]:
            with self.subTest(value=value):
                self.assertIs(is_name(value), False)

    def test_each_single_sign(self):
        signs = [chr(code) for code in range(127)]
        self.assertEqual("".join([sign for sign in signs if is_name(sign)]), "abcdefghijklmnopqrstuvwxyz")


class Binomials(unittest.TestCase):
    def test_lines_by_pascals_rule(self):
        line = (1,)
        for top in range(1001):
            if top <= 100 or top >= 998:
                self.assertEqual(binomials(top), line)
            line = tuple(left + right for left, right in zip((0,) + line, line + (0,)))

    def test_lots_of_things(self):
        for top in range(9):
            for low in range(10):
                self.assertEqual(binomial(top, low), len(list(itertools.combinations(range(top), low))))

    def test_single_ones_are_those_of_the_line(self):
        for top in (0, 1, 2, 13, 999, 1000):
            self.assertEqual(tuple(binomial(top, low) for low in range(top + 1)), binomials(top))

    def test_outside_the_line(self):
        for top in (0, 1, 5, 1000):
            for low in (-1, top + 1, -LONGEST, LONGEST):
                self.assertEqual(binomial(top, low), 0)

    def test_edges(self):
        self.assertEqual(binomials(0), (1,))
        self.assertEqual(binomial(0, 0), 1)
        self.assertEqual(len(binomials(1000)), 1001)
        self.assertEqual(sum(binomials(1000)), 2 ** 1000)
        for top in (-1, 1001):
            with self.assertRaises(InvalidNumber) as caught:
                binomials(top)
            self.assertEqual(caught.exception.given, top)

    def test_the_greatest_can_come_twice(self):
        self.assertEqual(binomials(5).count(max(binomials(5))), 2)


class PentagonalNumbers(unittest.TestCase):
    def test_by_the_formula(self):
        for number in list(range(-50, 51)) + [LONGEST, -LONGEST]:
            self.assertEqual(2 * pentagonal(number), number * (3 * number - 1))

    def test_ascending_sequence(self):
        told = [pentagonal(sign * number) for number in range(1, 200) for sign in (1, -1)]
        self.assertEqual(pentagonal(0), 0)
        self.assertTrue(all(ahead < behind for ahead, behind in zip([0] + told, told)))

    def test_roots_there_and_back(self):
        for number in range(-500, 501):
            self.assertEqual(pentagonal_root(pentagonal(number)), number)

    def test_all_small_values(self):
        known = {pentagonal(number): number for number in range(-60, 61)}
        for value in range(-100, 5000):
            self.assertEqual(pentagonal_root(value), known.get(value))

    def test_long_values(self):
        for number in (10 ** 29, -(10 ** 29), 123456789012345678901234567890, -123456789012345678901234567890):
            value = pentagonal(number)
            self.assertEqual(pentagonal_root(value), number)
            self.assertIsNone(pentagonal_root(value + 1))
            self.assertIsNone(pentagonal_root(value - 1))
        self.assertIsNone(pentagonal_root(-LONGEST))
        with self.assertRaises(InvalidNumber):
            pentagonal_root(TOO_LONG)

    def test_a_sum_of_two_can_be_one(self):
        self.assertEqual(pentagonal(2) + pentagonal(-2), pentagonal(3))


class Remainders(unittest.TestCase):
    def test_what_is_left_is_a_multiple(self):
        for modulus in (1, 2, 3, 5, 7, 999, 1000):
            for number in list(range(-30, 31)) + [LONGEST, -LONGEST]:
                left = modulo_of(number, modulus)
                self.assertIn(left, range(modulus))
                self.assertEqual((number - left) // modulus * modulus, number - left)

    def test_modulus_at_its_bounds(self):
        self.assertEqual([modulo_of(-1, 1), modulo_of(-1, 1000), modulo_of(1001, 1000)], [0, 999, 1])
        for modulus in (0, 1001, -5):
            with self.assertRaises(InvalidNumber) as caught:
                modulo_of(1, modulus)
            self.assertEqual(caught.exception.given, modulus)


LISTS = [
    (), (0,), (7,), (-7,), (0, 0), (10, -10, 100), (LONGEST, -LONGEST), tuple(range(-30, 30)), (LONGEST,) * 60,
    (-LONGEST,) * 60,
]


class ListTexts(unittest.TestCase):
    def test_told_texts(self):
        self.assertEqual(list_text(()), "-")
        self.assertEqual(list_text((0,)), "0")
        self.assertEqual(list_text((-5, 0, 12)), "-5 0 12")
        self.assertEqual(list_text((LONGEST,)), "9" * 60)

    def test_there_and_back(self):
        small = [numbers for many in range(4) for numbers in itertools.product((-10, -1, 0, 1, 25), repeat=many)]
        for numbers in LISTS + small:
            self.assertEqual(numbers_of_text(list_text(numbers)), numbers)

    def test_short_texts_that_are_right(self):
        signs = "-01 5"
        texts = ["".join(letters) for many in range(6) for letters in itertools.product(signs, repeat=many)]
        pieces = {str(number) for number in range(-5555, 55556)}
        for text in texts:
            right = text == "-" or all(piece in pieces for piece in text.split(" "))
            self.assertIs(self.is_right(text), right, text)
            if right:
                self.assertEqual(list_text(numbers_of_text(text)), text)

    def test_sixty_and_sixty_one_integers(self):
        self.assertEqual(list_text((1,) * 60), " ".join(["1"] * 60))
        with self.assertRaises(InvalidOperation):
            list_text((1,) * 61)
        self.assertEqual(numbers_of_text(" ".join(["1"] * 60)), (1,) * 60)
        self.spot_is(" ".join(["1"] * 61), 120)

    def spot_is(self, text, spot):
        with self.subTest(text=text):
            with self.assertRaises(ParseError) as caught:
                numbers_of_text(text)
            self.assertEqual(caught.exception.spot, spot)
            self.assertIs(type(caught.exception.spot), int)

    def test_wrong_pieces(self):
        wrong = ("", "-", "-0", "00", "01", "-01", "+1", "--1", "1-", "1_0", "1.0", "x", "0x1", "1\n", "\t1", "1,")
        for piece in wrong:
            for ahead in ("", "5 ", "5 -12 0 "):
                for behind in ("", " 7", " x"):
                    if ahead + piece + behind != "-":
                        self.spot_is(ahead + piece + behind, len(ahead))

    def test_blanks(self):
        for text in (" ", "  ", " 1", "1\n2", "- "):
            self.spot_is(text, 0)
        for text in ("1 ", "1  2", "1  "):
            self.spot_is(text, 2)
        self.spot_is("1 2 ", 4)

    def test_the_first_wrong_piece_counts(self):
        self.spot_is("1 02 x", 2)
        self.spot_is("12 -5 x 03", 6)

    def test_the_sixty_first_piece_or_a_wrong_one(self):
        sixty = " ".join(["1"] * 60)
        self.spot_is(sixty + " x", 120)
        self.spot_is(sixty + " 1 x", 120)
        self.spot_is(sixty + " ", 120)
        self.spot_is(" ".join(["1"] * 59) + " x 1", 118)
        self.spot_is(" ".join(["-12"] * 61), 240)

    def test_sixty_and_sixty_one_digits(self):
        self.assertEqual(numbers_of_text("9" * 60 + " -" + "9" * 60), (LONGEST, -LONGEST))
        self.spot_is("1" + "0" * 60, 0)
        self.spot_is("3 -1" + "0" * 60, 2)

    def test_long_texts(self):
        self.spot_is("1 " + "2" * 3998, 2)
        self.spot_is("1 " + "2" * 3999, 0)
        self.spot_is("1 " * 2000, 120)
        self.spot_is("1 " * 2000 + "1", 0)
        self.spot_is("-" * 4001, 0)
        self.assertEqual(len(list_text((-LONGEST,) * 60)), 3719)

    def test_no_strings(self):
        for value in NO_STRINGS:
            self.spot_is(value, 0)

    def test_every_sign_alone(self):
        right = [chr(code) for code in range(127) if self.is_right(chr(code))]
        self.assertEqual("".join(right), "-0123456789")

    def is_right(self, text):
        try:
            numbers_of_text(text)
        except ParseError:
            return False
        return True


if __name__ == "__main__":
    unittest.main()

"""Promises [7.1] to [7.7]: rank words, box words and crossed rows."""

import itertools
import unittest

from hookstrips.errors import InvalidNumber, InvalidOperation, InvalidRow, InvalidWord, TooMany
from hookstrips.shape.boxes import Box
from hookstrips.shape.gauss import gaussian
from hookstrips.shape.ranks import (
    box_word, crossed, crossed_often, followed_places, is_box_word, rank_word, round_of, row_of_box_word,
    row_of_rank_word, uncrossed, word_ranks,
)
from hookstrips.shape.rows import columns, ranks
from hookstrips.shape.words import depth_of, descents_of, heights_of, is_word, row_of_word, word_of, word_size
from tests.samples import FOUR, counted, rows_in_box, rows_of_size, rows_to_size, turned_by_squares, words_to

SMALL = rows_to_size(12)
WIDE = [(200,), (200,) * 60, (1,) * 60, tuple(range(60, 0, -1)), (200, 150, 3, 3, 3, 1), (7,) * 7, (30, 20, 10)]
WORDS = words_to(10)
SIDES = list(itertools.product(range(5), repeat=2)) + [(6, 2), (2, 6), (0, 9), (9, 0)]

# Its rank words grow from crossing to crossing, beyond 400 letters.
GROWING = (200,) * 60


def strings(wide, high):
    """All strings of so many letters a and b."""
    places = itertools.combinations(range(wide + high), high)
    return ["".join("b" if at in lot else "a" for at in range(wide + high)) for lot in places]


def places(letters):
    return [at for at in range(1, len(letters)) if letters[at - 1:].startswith("ba")]


class RankWords(unittest.TestCase):
    def test_as_told(self):
        for row in SMALL + WIDE:
            word = rank_word(row)
            pairs = columns(row)[::-1]
            descents = [at for at in range(1, len(word) + 1) if (word + "a")[at - 1:].startswith("ba")]
            self.assertEqual([word[:at].count("a") for at in descents], [a for a, _ in pairs])
            self.assertEqual([word[:at].count("b") for at in descents], [b + 1 for _, b in pairs])
            self.assertEqual(word[-1:], "b" if row else "")

    def test_what_it_tells(self):
        for row in SMALL + WIDE:
            word = rank_word(row)
            self.assertEqual(word_size(word), sum(row))
            self.assertEqual(descents_of(word), tuple(a + b + 1 for a, b in columns(row)[::-1]))
            behind = [heights_of(word)[at] for at in descents_of(word)]
            self.assertEqual(behind, [rank - 1 for rank in ranks(row)[::-1]])
            self.assertEqual(word_ranks(word), ranks(row)[::-1])
            self.assertEqual(word.count("b"), len(row))
            if row:
                self.assertEqual(word.count("a") + 1, row[0])

    def test_there_and_back(self):
        for row in SMALL + WIDE:
            self.assertEqual(row_of_rank_word(rank_word(row)), row)
        for word in WORDS:
            self.assertEqual(rank_word(row_of_rank_word(word)), word)
        told = [word for word in words_to(11) if word_size(word) == 11]
        self.assertEqual(sorted(rank_word(row) for row in rows_of_size(11)), sorted(told))

    def test_words_of_400_letters(self):
        self.assertEqual(row_of_rank_word("b" * 400), (1,) * 400)
        self.assertEqual(row_of_rank_word("a" * 399 + "b"), (400,))
        self.assertEqual(row_of_rank_word("ab" * 200), (201,) * 200)
        for call in (row_of_rank_word, word_ranks):
            for word in ("b" * 401, "a", "ba", None, "c", 5):
                with self.assertRaises(InvalidWord):
                    call(word)

    def test_ranks_of_words(self):
        self.assertEqual(word_ranks(""), ())
        for word in WORDS:
            told = [word[:at].count("a") - word[:at].count("b") + 1 for at in descents_of(word)]
            self.assertEqual(word_ranks(word), tuple(told))

    def test_it_need_not_be_the_word_of_the_row(self):
        self.assertNotEqual(rank_word((3, 1)), word_of((3, 1)))


class BoxWords(unittest.TestCase):
    def test_as_told(self):
        for wide, high in SIDES:
            for row in rows_in_box(wide, high):
                letters = box_word(Box(wide, high), row)
                rest = letters.removeprefix(rank_word(row))
                self.assertEqual(rest, "a" * rest.count("a") + "b" * rest.count("b"))
                self.assertEqual((letters.count("a"), letters.count("b")), (wide, high))
                self.assertEqual(len(letters), wide + high)
                self.assertEqual(sum(row), sum(places(letters)))

    def test_each_string_is_the_box_word_of_one_row(self):
        for wide, high in SIDES:
            box = Box(wide, high)
            told = strings(wide, high)
            self.assertEqual(sorted(box_word(box, row) for row in rows_in_box(wide, high)), sorted(told))
            for letters in told:
                self.assertIs(is_box_word(box, letters), True)
                self.assertEqual(box_word(box, row_of_box_word(box, letters)), letters)
                self.assertEqual(followed_places(box, letters), tuple(places(letters)))
            self.assertEqual(counted(sum(places(letters)) for letters in told), gaussian(wide + high, wide))

    def test_great_boxes(self):
        for wide, high in ((40, 40), (40, 1), (1, 40), (0, 40), (40, 0)):
            box = Box(wide, high)
            full = (wide,) * high if wide else ()
            self.assertEqual(box_word(box, ()), "a" * wide + "b" * high)
            for row in ((), full, full[:1], full[:7]):
                self.assertEqual(row_of_box_word(box, box_word(box, row)), row)
        self.assertEqual(row_of_box_word(Box(40, 40), "ba" * 40), (40,) * 40)

    def test_wrong_strings(self):
        for value in ("aaaabbb", "aaaabbbba", "aaaaabbb", "aaaabbbx", "", "AAAABBBB", "eeeennnn", None, ("a",) * 8, 8):
            self.assertIs(is_box_word(FOUR, value), False)
            for call in (row_of_box_word, followed_places):
                with self.assertRaises(InvalidWord):
                    call(FOUR, value)
        self.assertIs(is_box_word(Box(0, 0), ""), True)
        self.assertEqual(row_of_box_word(Box(0, 0), ""), ())
        self.assertEqual(followed_places(Box(0, 0), ""), ())

    def test_rows_that_are_not_in_the_box(self):
        for row in ((5,), (1,) * 5, (200,) * 60):
            with self.assertRaises(InvalidOperation):
                box_word(FOUR, row)


class Crossing(unittest.TestCase):
    def test_crossed_and_uncrossed(self):
        for row in SMALL + WIDE[:1] + WIDE[2:]:
            other = crossed(row)
            self.assertEqual(word_of(other), rank_word(row))
            self.assertEqual((sum(other), len(other)), (sum(row), len(row)))
            self.assertEqual(uncrossed(other), row)
        for row in SMALL + [(200,), (1,) * 60, (3,) * 60, (30, 20, 10)]:
            other = uncrossed(row)
            self.assertEqual(rank_word(other), word_of(row))
            self.assertEqual((sum(other), len(other)), (sum(row), len(row)))
            self.assertEqual(crossed(other), row)

    def test_least_ranks_and_parts_1(self):
        for row in SMALL:
            if row:
                self.assertEqual(crossed(row).count(1), max(0, 1 - min(ranks(row))))
            ones = row.count(1)
            if ones:
                self.assertEqual(min(ranks(uncrossed(row))), 1 - ones)
            self.assertEqual(depth_of(rank_word(row)), crossed(row).count(1))
        self.assertEqual((crossed(()), uncrossed(())), ((), ()))

    def test_crossed_rows_can_be_too_great_to_be_passed(self):
        other = crossed(GROWING)
        self.assertGreater(other[0], 200)
        self.assertEqual((sum(other), len(other)), (12000, 60))
        with self.assertRaises(InvalidRow):
            crossed(other)

    def test_uncrossed_with_400_letters_and_more(self):
        self.assertEqual(rank_word(uncrossed((200, 200)[:1])), "a" * 199 + "b")
        self.assertEqual(uncrossed((100,) * 4), (397, 1, 1, 1))
        for row in ((101, 100, 100, 100), (101, 100, 100, 100, 1), (200,) * 60):
            with self.assertRaises(TooMany) as caught:
                uncrossed(row)
            self.assertEqual(caught.exception.limit, 400)

    def test_crossed_often(self):
        for row in SMALL[::5] + [(9, 7, 7, 2)]:
            up = down = row
            self.assertEqual(crossed_often(row, 0), row)
            for many in range(1, 21):
                up = row_of_word(rank_word(up))
                down = row_of_rank_word(word_of(down))
                self.assertEqual(crossed_often(row, many), up)
                self.assertEqual(crossed_often(row, -many), down)

    def test_how_often_at_its_bounds(self):
        for many in (-21, 21, 10 ** 59):
            with self.assertRaises(InvalidNumber) as caught:
                crossed_often((2, 1), many)
            self.assertEqual(caught.exception.given, many)

    def test_long_words_on_the_way(self):
        many, row = 0, GROWING
        while row[0] - 1 + len(row) <= 400:
            many += 1
            row = crossed_often(GROWING, many)
        self.assertIn(many, range(2, 20))
        for further in range(many + 1, 21):
            with self.assertRaises(TooMany) as caught:
                crossed_often(GROWING, further)
            self.assertEqual(caught.exception.limit, 400)
        with self.assertRaises(TooMany):
            crossed_often((101, 100, 100, 100), -1)
        # No word is needed.
        self.assertEqual(crossed_often((101, 100, 100, 100), 0), (101, 100, 100, 100))

    def test_crossed_twice_is_not_the_row(self):
        self.assertNotEqual(crossed(crossed((4, 2))), (4, 2))

    def test_crossing_and_turning(self):
        self.assertNotEqual(crossed(turned_by_squares((3, 1))), turned_by_squares(crossed((3, 1))))


class Rounds(unittest.TestCase):
    def test_rounds(self):
        for row in SMALL:
            told = [row]
            while crossed(told[-1]) != row:
                told.append(crossed(told[-1]))
            self.assertEqual(len(set(told)), len(told))
            self.assertEqual({(sum(each), len(each)) for each in told}, {(sum(row), len(row))})
            self.assertEqual(round_of(row, 200), tuple(told))
            self.assertEqual(round_of(row, len(told)), tuple(told))
            if len(told) > 1:
                self.assertIsNone(round_of(row, len(told) - 1))
            else:
                self.assertEqual(rank_word(row), word_of(row))

    def test_bounds(self):
        self.assertEqual(round_of((), 1), ((),))
        self.assertEqual(round_of((1,) * 60, 1), ((1,) * 60,))
        self.assertIsNone(round_of((4, 2), 1))
        for most in (0, 201, -1):
            with self.assertRaises(InvalidNumber) as caught:
                round_of((4, 2), most)
            self.assertEqual(caught.exception.given, most)

    def test_words_on_the_way_can_have_any_length(self):
        # Its words have more than 400 letters from the third crossing on; this is no error here.
        self.assertIsNone(round_of(GROWING, 200))
        told = round_of((200, 199), 200)
        self.assertEqual(len(told), 199)
        self.assertEqual(max(row[0] for row in told), 398)
        self.assertEqual(told[1], crossed((200, 199)))
        self.assertIsNone(round_of((200, 199), 198))


class Words(unittest.TestCase):
    def test_rank_words_are_words(self):
        for row in SMALL + WIDE:
            self.assertTrue(is_word(rank_word(row)))


if __name__ == "__main__":
    unittest.main()

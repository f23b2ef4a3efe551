"""Promises [0.13], [0.14] and [6.1] to [6.7]: words, held against their definitions, letter by letter."""

import inspect
import unittest

from hookstrips.errors import InvalidOperation, InvalidRow, InvalidWord, TooMany
from hookstrips.shape.words import (
    closest_parts, depth_of, descents_of, drop_of, heights_of, is_word, lowered, raised, row_of_word, steps_of, word_of,
    word_size,
)
from tests.samples import NO_STRINGS, rows_of_size, rows_to_size, turned_by_squares, words_to

SMALL = rows_to_size(13)
WIDE = [(200, 200), (200,), (1,) * 60, tuple(range(60, 0, -1)), (100, 40, 40, 3, 2, 1, 1), (100,) * 4, (6,) * 60]
WORDS = words_to(10)
MANY_LETTERS = ["", "b" * 400, "a" * 399 + "b", "ab" * 200, "b" * 200 + "a" * 199 + "b", "aab" * 133]


def lowered_by_lots(row):
    """Lowering as told: a lot of parts, of which one is taken after the other."""
    left, taken = list(row), []
    most = max(left)
    while [part for part in left if part <= most]:
        part = max(part for part in left if part <= most)
        left.remove(part)
        taken.append(part)
        most = part - 2
    parts = sorted(left + [part - 1 for part in taken], reverse=True)
    letter = "b" if 0 in parts else "a"
    return tuple(part for part in parts if part), letter, len(taken)


def raised_by_lots(row, letter):
    """Raising as told, with a part 0 for the letter b."""
    left, taken = list(row) + [0] * (letter == "b"), []
    least = 0
    while [part for part in left if part >= least]:
        part = min(part for part in left if part >= least)
        left.remove(part)
        taken.append(part)
        least = part + 2
    return tuple(sorted(left + [part + 1 for part in taken], reverse=True))


def word_by_lots(row):
    letters = ""
    while row:
        row, letter, _ = lowered_by_lots(row)
        letters += letter
    return letters


def heights(word):
    return [word[:at].count("a") - word[:at].count("b") for at in range(len(word) + 1)]


def descents(word):
    return [at for at in range(1, len(word) + 1) if (word + "a")[at - 1:at + 1] == "ba"]


def closest(row):
    return max([row.count(j) + row.count(j + 1) for j in range(1, 201)])


class Words(unittest.TestCase):
    def test_words(self):
        for value in WORDS + MANY_LETTERS:
            self.assertIs(is_word(value), True)

    def test_no_words(self):
        long = ["b" * 401, "a" * 400, "a" * 400 + "b", "a" * 4000, "b" * 4000]
        wrong = long + ["a", "ba", "bba", "b ", " b", "B", "ab\n", "abcb", "0"]
        for value in NO_STRINGS + wrong:
            with self.subTest(value=str(value)[:50]):
                self.assertIs(is_word(value), False)
                for call in (row_of_word, heights_of, descents_of, word_size, depth_of, drop_of):
                    with self.assertRaises(InvalidWord):
                        call(value)

    def test_heights_and_descents(self):
        for word in WORDS + MANY_LETTERS:
            self.assertEqual(heights_of(word), tuple(heights(word)))
            self.assertEqual(descents_of(word), tuple(descents(word)))

    def test_size_depth_and_drop(self):
        for word in WORDS:
            told = heights(word)
            self.assertEqual(word_size(word), sum(descents(word)))
            self.assertEqual(depth_of(word), max(-height for height in told))
            falls = [told[s] - told[t] for s in range(len(told)) for t in range(s, len(told))]
            self.assertEqual(drop_of(word), max(falls))
        self.assertEqual([call("") for call in (word_size, depth_of, drop_of)], [0, 0, 0])
        self.assertEqual([call("b" * 400) for call in (word_size, depth_of, drop_of)], [400, 400, 400])


class Steps(unittest.TestCase):
    def test_lowered(self):
        for row in SMALL + WIDE:
            if row:
                lower, letter, taken = lowered_by_lots(row)
                self.assertEqual(lowered(row), (lower, letter))
                self.assertEqual(sum(row) - sum(lower), taken)
                self.assertEqual(len(descents(word_by_lots(row))), taken)
        with self.assertRaises(InvalidOperation):
            lowered(())

    def test_raised(self):
        for row in SMALL + WIDE:
            for letter in "ab":
                self.assertEqual(raised(row, letter), raised_by_lots(row, letter))
        self.assertEqual(raised((), "a"), ())
        self.assertEqual(raised((), "b"), (1,))

    def test_raised_rows_can_be_too_great_to_be_passed(self):
        self.assertEqual(raised((200,) * 60, "a"), (201,) + (200,) * 59)
        self.assertEqual(raised((200,) * 60, "b"), (201,) + (200,) * 59 + (1,))
        with self.assertRaises(InvalidRow):
            raised(raised((1,) * 60, "b"), "b")

    def test_step_by_step_there_and_back(self):
        for row in SMALL + WIDE:
            for letter in "ab":
                if row or letter == "b":
                    up = raised(row, letter)
                    if len(up) <= 60 and up[0] <= 200:
                        self.assertEqual(lowered(up), (row, letter))
            if row:
                self.assertEqual(raised(*lowered(row)), row)

    def test_letters(self):
        for letter in NO_STRINGS + ["", "ab", "c", "A", "aa"]:
            with self.assertRaises(InvalidWord):
                raised((2, 1), letter)

    def test_steps_down(self):
        for row in SMALL + WIDE:
            told = list(steps_of(row))
            self.assertEqual((told[0], told[-1]), (row, ()))
            self.assertEqual(len(told), len(word_by_lots(row)) + 1)
            for one, other in zip(told, told[1:]):
                self.assertEqual(lowered_by_lots(one)[0], other)

    def test_400_steps_and_more(self):
        self.assertEqual(len(list(steps_of((200, 200)))), 401)
        for row in ((101, 100, 100, 100), (101, 100, 100, 100, 1), (200,) * 60):
            made = steps_of(row)
            self.assertTrue(inspect.isgenerator(made))
            with self.assertRaises(TooMany) as caught:
                next(made)
            self.assertEqual(caught.exception.limit, 400)


class OneWord(unittest.TestCase):
    def test_there_and_back(self):
        for row in SMALL + WIDE:
            word = word_of(row)
            self.assertEqual(word, word_by_lots(row))
            self.assertTrue(is_word(word))
            self.assertEqual(row_of_word(word), row)
        for word in WORDS + MANY_LETTERS:
            row = ()
            for letter in word[::-1]:
                row = raised_by_lots(row, letter)
            self.assertEqual(row_of_word(word), row)
            if len(row) <= 60 and (not row or row[0] <= 200):
                self.assertEqual(word_of(row), word)

    def test_all_rows_of_a_size_have_all_words_of_that_size(self):
        words = words_to(12)
        for size in range(13):
            told = [word for word in words if sum(descents(word)) == size]
            self.assertEqual(sorted(word_of(row) for row in rows_of_size(size)), sorted(told))

    def test_what_the_word_tells(self):
        for row in SMALL + WIDE:
            word = word_of(row)
            self.assertEqual(word_size(word), sum(row))
            self.assertEqual(word.count("b"), len(row))
            self.assertEqual(depth_of(word), row.count(1))
            self.assertEqual(drop_of(word), closest(row))
            self.assertEqual(closest_parts(row), closest(row))

    def test_closest_parts(self):
        for row in ((200,) * 60, (200,) * 30 + (1,) * 30, (3, 2, 2, 1), (), (5, 3, 1), (1,), (2, 1, 1), (200, 199)):
            self.assertEqual(closest_parts(row), closest(row))

    def test_left_out_letters(self):
        for row in SMALL:
            if row:
                self.assertEqual(word_of(lowered(row)[0]), word_of(row)[1:])
                if 1 not in row:
                    self.assertTrue(word_of(row).startswith("a"))

    def test_equal_parts(self):
        for many, part in ((1, 1), (1, 200), (60, 1), (3, 4), (2, 200), (50, 8), (60, 6)):
            self.assertEqual(word_of((part,) * many), "a" * (many * (part - 1)) + "b" * many)

    def test_400_letters_and_more(self):
        for row in ((200, 200), (200, 200, 1), (100,) * 4, (8,) * 50):
            self.assertEqual(len(word_of(row)), 400)
            longer = raised(row, "a")
            if longer[0] <= 200:
                self.too_many(longer)
        for row in ((101, 100, 100, 100, 1), (200,) * 60, (200, 200, 200), (9,) * 50):
            self.too_many(row)

    def too_many(self, row):
        self.assertGreater(len(word_by_lots(row)), 400)
        with self.assertRaises(TooMany) as caught:
            word_of(row)
        self.assertEqual(caught.exception.limit, 400)

    def test_words_of_401_letters(self):
        self.assertEqual(len(word_by_lots((101, 100, 100, 100))), 401)
        self.assertEqual(len(word_by_lots((101, 100, 100, 100, 1))), 401)

    def test_rows_can_be_too_great_to_be_passed(self):
        self.assertEqual(row_of_word("b" * 400), (1,) * 400)
        self.assertEqual(row_of_word("a" * 399 + "b"), (400,))

    def test_words_of_one_size_can_have_many_lengths(self):
        self.assertNotEqual(len(word_of((3, 1))), len(word_of((5,))) - 1)
        self.assertEqual([sum((3, 1)), sum((4,)), len(word_of((3, 1))), len(word_of((4,)))], [4, 4, 3, 4])

    def test_turned_rows_can_have_words_of_two_drops(self):
        rows = [row for row in SMALL if drop_of(word_of(row)) != drop_of(word_of(turned_by_squares(row)))]
        self.assertIn((2,), rows)


if __name__ == "__main__":
    unittest.main()

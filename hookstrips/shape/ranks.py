"""The word that the columns of a row tell, box words, and rows that are crossed by both words."""

from hookstrips.base.numbers import check_between
from hookstrips.errors import InvalidWord
from hookstrips.shape.boxes import check_box, check_in_box, has_letters
from hookstrips.shape.rows import check_row, columns_along, row_with_columns
from hookstrips.shape.words import (
    check_letters, check_word, descents_along, heights_along, letters_of, row_with_word,
)

MOST_CROSSED = 20
MOST_ROUND = 200


def rank_word(row):
    """The rank word of a row."""
    check_row(row)
    return rank_letters(row)


def rank_letters(row):
    """The rank word of a row of any length and with parts of any size."""
    letters = []
    arm = 0
    leg = 0
    for a, b in columns_along(row)[::-1]:
        letters.append("a" * (a - arm) + "b" * (b + 1 - leg))
        arm = a
        leg = b + 1
    return "".join(letters)


def row_of_rank_word(word):
    """The row whose rank word it is."""
    check_word(word)
    return row_with_rank_word(word)


def row_with_rank_word(word):
    """The row with a rank word of any length."""
    pairs = []
    for descent in descents_along(word)[::-1]:
        arm = word[:descent].count("a")
        pairs.append((arm, descent - arm - 1))
    return row_with_columns(pairs)


def word_ranks(word):
    """The tuple of the ranks that a rank word tells, the last column first."""
    check_word(word)
    heights = heights_along(word)
    return tuple([heights[descent] + 1 for descent in descents_along(word)])


def box_word(box, row):
    """The box word of a row in the box."""
    check_in_box(box, row)
    word = rank_letters(row)
    more = "a" * (box.wide - word.count("a")) + "b" * (box.high - word.count("b"))
    return word + more


def is_box_word(box, value):
    """Whether the value is the box word of a row in the box."""
    check_box(box)
    return has_letters(value, "a", box.wide, "b", box.high)


def check_box_word(box, letters):
    """Raise the first error of a box and of what is to be a box word of it."""
    if not is_box_word(box, letters):
        raise InvalidWord("not as many letters a as the box is wide, and b as it is high")


def row_of_box_word(box, letters):
    """The row in the box with this box word."""
    check_box_word(box, letters)
    # The rank word ends with the last b that is followed by a.
    end = max(followed_in(letters), default=0)
    return row_with_rank_word(letters[:end])


def followed_places(box, letters):
    """The ascending tuple of the places, from 1 on, at which b is followed by a."""
    check_box_word(box, letters)
    return tuple(followed_in(letters))


def followed_in(letters):
    """The list of these places in a string."""
    return [at for at in range(1, len(letters)) if letters[at - 1:at + 1] == "ba"]


def crossed(row):
    """The row whose word is the rank word of this row."""
    check_row(row)
    return row_with_word(rank_letters(row))


def uncrossed(row):
    """The row whose rank word is the word of this row."""
    check_row(row)
    return row_with_rank_word(letters_of(row))


def crossed_often(row, many):
    """The row, crossed so many times, or uncrossed for a number below 0."""
    check_row(row)
    check_between(many, -MOST_CROSSED, MOST_CROSSED)
    for _ in range(many):
        word = rank_letters(row)
        check_letters(len(word))
        row = row_with_word(word)
    for _ in range(-many):
        row = row_with_rank_word(letters_of(row))
    return row


def round_of(row, most):
    """The tuple of the rows on the way back to the row by crossing, or None."""
    check_row(row)
    check_between(most, 1, MOST_ROUND)
    found = [row]
    latest = row_with_word(rank_letters(row))
    while latest != row:
        if len(found) == most:
            return None
        found.append(latest)
        latest = row_with_word(rank_letters(latest))
    return tuple(found)

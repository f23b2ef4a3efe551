"""One word for each row: lowering and raising, and what a word tells of its row."""

from hookstrips.errors import InvalidOperation, InvalidWord, TooMany
from hookstrips.shape.rows import check_row

MOST_LETTERS = 400


def is_word(value):
    """Whether the value is a word of at most 400 letters."""
    if not isinstance(value, str) or len(value) > MOST_LETTERS:
        return False
    return all([letter in ("a", "b") for letter in value]) and not value.endswith("a")


def check_word(word):
    """Raise InvalidWord unless the value is a word."""
    if not is_word(word):
        raise InvalidWord("not a word of at most 400 letters")


def check_letters(many):
    """Raise TooMany if a word would have so many letters."""
    if many > MOST_LETTERS:
        raise TooMany(MOST_LETTERS)


def lowered(row):
    """The pair of the lowered row and of the letter of this step."""
    check_row(row)
    if row == ():
        raise InvalidOperation("() cannot be lowered")
    return row_below(row)


def row_below(row):
    """The lowered row and the letter, for any row other than ()."""
    parts = []
    most = row[0]
    for at, part in enumerate(row):
        # Of equal parts the last one is taken, so that the parts stay in sequence.
        if part <= most and (at + 1 == len(row) or row[at + 1] < part):
            parts.append(part - 1)
            most = part - 2
        else:
            parts.append(part)
    if parts[-1] == 0:
        return tuple(parts[:-1]), "b"
    return tuple(parts), "a"


def raised(row, letter):
    """The row, raised with a letter."""
    check_row(row)
    if letter not in ("a", "b"):
        raise InvalidWord("not the letter a or b")
    return row_above(row, letter)


def row_above(row, letter):
    """The row of any length, raised with a letter."""
    rising = [0] if letter == "b" else []
    rising.extend(row[::-1])
    parts = []
    least = 0
    for at, part in enumerate(rising):
        # Of equal parts the one that stands first in the row is taken.
        if part >= least and (at + 1 == len(rising) or rising[at + 1] > part):
            parts.append(part + 1)
            least = part + 2
        else:
            parts.append(part)
    return tuple(parts[::-1])


def word_of(row):
    """The word of a row, of at most 400 letters."""
    check_row(row)
    return letters_of(row)


def letters_of(row):
    """The word, of at most 400 letters, of a row of any length."""
    letters = []
    while row != ():
        check_letters(len(letters) + 1)
        row, letter = row_below(row)
        letters.append(letter)
    return "".join(letters)


def row_of_word(word):
    """The row whose word it is."""
    check_word(word)
    return row_with_word(word)


def row_with_word(word):
    """The row with a word of any length."""
    row = ()
    for letter in word[::-1]:
        row = row_above(row, letter)
    return row


def heights_of(word):
    """The tuple of all heights, the first one among them."""
    check_word(word)
    return tuple(heights_along(word))


def heights_along(word):
    """The list of the heights of a word."""
    heights = [0]
    for letter in word:
        heights.append(heights[-1] + (1 if letter == "a" else -1))
    return heights


def descents_of(word):
    """The ascending tuple of the descents."""
    check_word(word)
    return tuple(descents_along(word))


def descents_along(word):
    """The list of the descents of a word of any length."""
    return [at for at in range(1, len(word) + 1) if word[at - 1] == "b" and word[at:at + 1] != "b"]


def word_size(word):
    """The sum of the descents."""
    check_word(word)
    return sum(descents_along(word))


def depth_of(word):
    """How far the heights fall below 0."""
    check_word(word)
    return -min(heights_along(word))


def drop_of(word):
    """The greatest fall from a height to a later one."""
    check_word(word)
    highest = 0
    drop = 0
    for height in heights_along(word):
        highest = max(highest, height)
        drop = max(drop, highest - height)
    return drop


def closest_parts(row):
    """The greatest number of parts j and j + 1 together."""
    check_row(row)
    # The greatest number is met at a j that is a part itself, or at 0 for ().
    return max([row.count(part) + row.count(part + 1) for part in row], default=0)


def steps_of(row):
    """A generator of the rows on the way down to (), both among them."""
    word_of(row)
    yield row
    while row != ():
        row, _ = row_below(row)
        yield row

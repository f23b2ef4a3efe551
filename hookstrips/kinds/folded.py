"""Paths with low peaks, which belong to gap rows one to one, and the fold that leads them to rank rows."""

from hookstrips.base.numbers import is_between
from hookstrips.errors import InvalidOperation, InvalidWalk
from hookstrips.kinds.gaps import check_gap_row, check_kind
from hookstrips.kinds.rests import check_rank_row
from hookstrips.shape.rows import columns_along, row_with_columns
from hookstrips.shape.words import check_letters, letters_of, row_with_word

MOST_HEIGHTS = 401
MOST_PLACE = 400


def is_path(kind, value):
    """Whether the value is a path of the kind."""
    check_kind(kind)
    if not isinstance(value, tuple) or not 1 <= len(value) <= MOST_HEIGHTS:
        return False
    if not all([is_between(height, 0, kind.order - 1) for height in value]):
        return False
    steps = list(zip(value, value[1:]))
    if value[0] != kind.order - kind.first or not all([_is_step(height, after) for height, after in steps]):
        return False
    return steps == [] or value[-1] > value[-2]


def _is_step(height, after):
    """Whether a path goes from one height to the other one by a step."""
    return abs(after - height) == 1 or height == after == 0


def check_path(kind, path):
    """Raise the first error of a kind and of a path of it."""
    if not is_path(kind, path):
        raise InvalidWalk("not a path of the kind")


def path_of(kind, row):
    """The path of a gap row of the kind."""
    check_gap_row(kind, row)
    return tuple(_path_along(kind, letters_of(row)))


def _path_along(kind, word):
    """The list of the heights of the path with this word."""
    heights = [kind.order - kind.first]
    for letter in word:
        heights.append(heights[-1] + 1 if letter == "b" else max(0, heights[-1] - 1))
    return heights


def row_of_path(kind, path):
    """The gap row of a path of the kind."""
    check_path(kind, path)
    return row_with_word("".join(["b" if after > height else "a" for height, after in zip(path, path[1:])]))


def peaks_of(kind, path):
    """The ascending tuple of the peaks of a path of the kind."""
    check_path(kind, path)
    return tuple(peaks_along(path))


def peaks_along(path):
    """The list of the peaks of a list or tuple of heights."""
    peaks = []
    for at in range(1, len(path)):
        goes_on = at + 1 < len(path) and path[at + 1] > path[at]
        if path[at] > path[at - 1] and not goes_on:
            peaks.append((at, path[at]))
    return peaks


def path_by_peaks(kind, peaks):
    """The path of the kind with these peaks, None if there is none."""
    check_kind(kind)
    if not _are_peaks(kind, peaks):
        raise InvalidOperation("not pairs of an ascending place from 1 to 400 and a height from 1 to k - 1")
    word = _word_by_peaks(kind, peaks)
    return None if word is None else tuple(_path_along(kind, word))


def _are_peaks(kind, value):
    """Whether the value is a tuple of places, ascending from 1 to 400, and of heights from 1 to k - 1."""
    if not isinstance(value, tuple) or not all([isinstance(peak, tuple) and len(peak) == 2 for peak in value]):
        return False
    if not all([is_between(place, 1, MOST_PLACE) for place, _ in value]):
        return False
    if not all([is_between(height, 1, kind.order - 1) for _, height in value]):
        return False
    return all([ahead[0] < behind[0] for ahead, behind in zip(value, value[1:])])


def _word_by_peaks(kind, peaks):
    """The word of the path with these peaks, at places without a bound, or None."""
    letters = []
    place, height = 0, kind.order - kind.first
    # Behind each peak a step does not go up, but none is needed at the beginning.
    least = 0
    for goal_place, goal in peaks:
        gap = goal_place - place
        falls = _falls_between(height, goal, gap, least)
        if falls is None:
            return None
        letters.append("a" * falls + "b" * (gap - falls))
        place, height, least = goal_place, goal, 1
    return "".join(letters)


def _falls_between(height, goal, gap, least):
    """How many of the steps from a height to the next peak do not go up, None if none lead there."""
    if gap > height + goal:
        # The path comes to 0, and stays there for the steps that are left.
        return gap - goal
    both = gap + height - goal
    if both & 1 or not least <= both // 2 < gap:
        return None
    return both // 2


def ranked(kind, row):
    """The folded row of the path of a gap row of the kind."""
    check_gap_row(kind, row)
    peaks = peaks_along(_path_along(kind, letters_of(row)))
    return row_with_columns([_column_of(kind, place, height) for place, height in peaks[::-1]])


def _column_of(kind, place, height):
    """The column (a, b) to which a peak is folded."""
    rank = kind.order - kind.first + height
    if (rank + place) % 2 == 0:
        # Of both ranks that belong to a height one makes a and b integers.
        rank = kind.order - kind.first + 1 - height
    return (place - 1 + rank) // 2, (place - 1 - rank) // 2


def gap_row_of(kind, row):
    """The gap row that is led to a rank row of the kind."""
    check_rank_row(kind, row)
    word = _word_by_peaks(kind, [_peak_of(kind, arm, leg) for arm, leg in columns_along(row)[::-1]])
    check_letters(len(word))
    return row_with_word(word)


def _peak_of(kind, arm, leg):
    """The peak that is folded to a column."""
    doubled = abs(2 * (arm - leg + kind.first - kind.order) - 1)
    return arm + leg + 1, (doubled + 1) // 2

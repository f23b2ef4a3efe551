"""The marks of parts, classes of gap rows by their marks, and the relative heights of peaks."""

from math import isqrt

from hookstrips.base.numbers import check_between
from hookstrips.errors import InvalidOperation
from hookstrips.kinds.cut import class_quotient
from hookstrips.kinds.folded import check_path, peaks_along
from hookstrips.kinds.gaps import check_gap_row, check_kind, gap_rows
from hookstrips.shape.rows import check_row, is_falling

MOST_NUMBER = 20
MOST_SERIES = 100
MOST_CLASSES = 40
MOST_ROWS_SIZE = 30


def marks_of(row):
    """The tuple of the marks of the parts, the least part first."""
    check_row(row)
    return tuple(_marks_along(row))


def _marks_along(row):
    """The list of these marks."""
    marks = []
    rising = row[::-1]
    for at, part in enumerate(rising):
        barred = [mark for other, mark in zip(rising[:at], marks) if other >= part - 1]
        marks.append(min([mark for mark in range(1, at + 2) if mark not in barred]))
    return marks


def class_of(row):
    """The class of a row: how many parts have each mark."""
    check_row(row)
    return _class_along(row)


def _class_along(row):
    """The tuple of these numbers."""
    marks = _marks_along(row)
    return tuple([marks.count(mark) for mark in range(1, max(marks, default=0) + 1)])


def class_for(kind, row):
    """The class of a gap row for its kind, with zeros behind it."""
    check_gap_row(kind, row)
    return _class_for(kind, row)


def _class_for(kind, row):
    """The class of a row with zeros behind it, k - 1 integers in all."""
    numbers = _class_along(row)
    return numbers + (0,) * (kind.order - 1 - len(numbers))


def relative_heights(kind, path):
    """The tuple of the relative heights of the peaks of a path of the kind."""
    check_path(kind, path)
    return tuple([_relative_height(path, place) for place, _ in peaks_along(path)])


def _relative_height(path, place):
    """The height of a peak less the greater one of the least heights on both sides."""
    peak = path[place]
    first = place
    while first > 0 and path[first - 1] <= peak:
        first -= 1
    end = place + 1
    while end < len(path) and path[end] < peak:
        end += 1
    # A height 0 stands behind the end of the path.
    least_behind = min(path[place:end]) if end < len(path) else 0
    return peak - max(min(path[first:place + 1]), least_behind)


def is_class(kind, value):
    """Whether the value is a falling tuple of k - 1 integers from 0 to 20, equal ones among them."""
    check_kind(kind)
    return isinstance(value, tuple) and len(value) == kind.order - 1 and is_falling(value, 0, MOST_NUMBER)


def _check_class(kind, numbers):
    """Raise the first error of a kind and of a class of it."""
    if not is_class(kind, numbers):
        raise InvalidOperation("not a class of the kind")


def class_least(kind, numbers):
    """The least size of the rows of a class."""
    _check_class(kind, numbers)
    return sum([number * number for number in numbers]) + _added(kind, numbers)


def _added(kind, numbers):
    """What is put to the squares: all numbers from that of the mark i on."""
    return sum(numbers[kind.first - 1:])


def class_series(kind, numbers, size):
    """The series to the size that counts the gap rows of a class."""
    _check_class(kind, numbers)
    check_between(size, 0, MOST_SERIES)
    return class_quotient(numbers, _added(kind, numbers), size)


def classes_to(kind, size):
    """The ascending tuple of all classes of the kind whose least size is at most this one."""
    check_kind(kind)
    check_between(size, 0, MOST_CLASSES)
    # No number is above the root of the size, since its square is part of the least size.
    most = isqrt(size)
    classes = [()]
    for _ in range(kind.order - 1):
        classes = [numbers + (number,) for numbers in classes for number in range(min(numbers, default=most) + 1)]
    return tuple([numbers for numbers in classes if class_least(kind, numbers) <= size])


def rows_of_class(kind, numbers, size):
    """The ascending tuple of all gap rows of the size with this class for the kind."""
    _check_class(kind, numbers)
    check_between(size, 0, MOST_ROWS_SIZE)
    return tuple([row for row in gap_rows(kind, size) if _class_for(kind, row) == numbers])

"""Kinds, and gap rows: rows with few parts 1 and few parts j and j + 1 together."""

from hookstrips.base.numbers import check_between
from hookstrips.base.polys import moved, over_one, sum_with, without_end_zeros
from hookstrips.diagonal.bounds import Bounds
from hookstrips.errors import InvalidKind, InvalidOperation, TooMany
from hookstrips.shape.boxes import Box
from hookstrips.shape.gauss import gaussian
from hookstrips.shape.rows import check_row

MIN_ORDER = 2
MOST_ORDER = 8
MOST_SIZE = 200
MOST_LISTED_SIZE = 60
MOST_ROWS = 3000
MOST_GREATEST = 40


class Kind:
    """A kind, told by the integers k and i; it never changes."""

    def __init__(self, order, first):
        check_between(order, MIN_ORDER, MOST_ORDER)
        check_between(first, 1, order)
        self._order = order
        self._first = first

    @property
    def order(self):
        """The integer k."""
        return self._order

    @property
    def first(self):
        """The integer i."""
        return self._first

    @property
    def modulus(self):
        """The integer 2 k + 1."""
        return 2 * self._order + 1

    def __eq__(self, other):
        return isinstance(other, Kind) and self._order == other._order and self._first == other._first

    def __str__(self):
        return f"kind {self._order}, {self._first}"


def check_kind(kind):
    """Raise InvalidKind unless the value is a kind."""
    if not isinstance(kind, Kind):
        raise InvalidKind("not a kind")


def is_gap_row(kind, value):
    """Whether the value is a gap row of the kind, of any length and with parts of any size."""
    check_kind(kind)
    return _is_long_row(value) and has_gaps(kind, value)


def _is_long_row(value):
    """Whether the value is a row of any length, its parts of any size."""
    if not isinstance(value, tuple):
        return False
    # is_integer would not take parts of more than sixty digits.
    if not all([isinstance(part, int) and not isinstance(part, bool) and part > 0 for part in value]):
        return False
    return all([ahead >= behind for ahead, behind in zip(value, value[1:])])


def has_gaps(kind, row):
    """Whether a row of any length is a gap row of the kind."""
    if row.count(1) >= kind.first:
        return False
    return all([ahead - behind >= 2 for ahead, behind in zip(row, row[kind.order - 1:])])


def check_gap_row(kind, row):
    """Raise the first error of a kind and of a row that is to be a gap row of it."""
    check_kind(kind)
    check_row(row)
    if not has_gaps(kind, row):
        raise InvalidOperation("not a gap row of the kind")


def gap_fault(kind, row):
    """0 for too many parts 1, else the least j with too many parts j and j + 1, or None."""
    check_kind(kind)
    check_row(row)
    if row.count(1) >= kind.first:
        return 0
    for part in range(1, max(row, default=0) + 1):
        if row.count(part) + row.count(part + 1) >= kind.order:
            return part
    return None


def _layers(kind, greatest, size):
    """The series to the size of the gap rows by layers.

    The item at L is a list that has for each s from 0 to k - 1 the list of the numbers of the gap
    rows whose parts are all at most L, and of which at most s are L, by size.
    """
    one = [1] + [0] * size
    # Beside k - i parts 0 there is room for i - 1 parts 1, as between all other neighbours.
    layer = [one if room >= kind.order - kind.first else [0] * (size + 1) for room in range(kind.order)]
    layers = [layer]
    for part in range(1, greatest + 1):
        grown = [layer[-1]]
        for many in range(1, kind.order):
            grown.append(_with_moved(grown[-1], layer[kind.order - 1 - many], many * part))
        layer = grown
        layers.append(layer)
    return layers


def _with_moved(numbers, others, many):
    """The series with the other one put to it, moved by so many places; both have one length."""
    return numbers[:many] + [number + other for number, other in zip(numbers[many:], others)]


def gap_series(kind, size):
    """The series to the size that counts all gap rows by size."""
    check_kind(kind)
    check_between(size, 0, MOST_SIZE)
    return tuple(_layers(kind, size, size)[-1][-1])


def gap_poly(kind, greatest):
    """The polynomial that counts the gap rows whose parts are all at most the greatest one."""
    check_kind(kind)
    check_between(greatest, 0, MOST_GREATEST)
    # No gap row is greater than the one with k - 1 of every second part.
    size = (kind.order - 1) * sum(range(greatest, 0, -2))
    return without_end_zeros(_layers(kind, greatest, size)[-1][-1])


def gap_rows(kind, size):
    """The ascending tuple of all gap rows of the size."""
    _check_listed(kind, size)
    if _layers(kind, size, size)[-1][-1][size] > MOST_ROWS:
        raise TooMany(MOST_ROWS)
    return tuple(_listed(kind, size))


def _check_listed(kind, size):
    """Raise the first error of a kind and of a size whose gap rows can be listed."""
    check_kind(kind)
    check_between(size, 0, MOST_LISTED_SIZE)


def _listed(kind, size):
    """The ascending list of all gap rows of the size.

    Part by part, `rows` has for each total the ascending list of the gap rows of this size whose parts
    are all at most this part, and `ends` has for each s how many of these, the first ones of the list,
    have this part at most s times.
    """
    rows = [[()]] + [[] for _ in range(size)]
    # As for the layers, beside k - i parts 0 there is room for i - 1 parts 1.
    ends = [[1 if room >= kind.order - kind.first else 0 for room in range(kind.order)]]
    ends = ends + [[0] * kind.order] * size
    for part in range(1, size + 1):
        # Rows of a total below the size are asked for behind a greater part alone, which needs room.
        # Rows with this part come from those of lesser totals without it, so the greatest total is first.
        for total in [size] + list(range(size - part - 1, part - 1, -1)):
            rows[total], ends[total] = _with_part(rows, ends, part, total)
        # No row of a lesser total has this part.
        ends[part - 1] = [len(rows[part - 1])] * kind.order
    return rows[size]


def _with_part(rows, ends, part, total):
    """The pair of the list and the ends of the total, when the rows with this part stand behind the others."""
    found = list(rows[total])
    reached = [len(found)]
    for many in range(1, len(ends[total])):
        rest = total - many * part
        if rest >= 0:
            ahead = (part,) * many
            found.extend([ahead + row for row in rows[rest][:ends[rest][-1 - many]]])
        reached.append(len(found))
    return found, reached


def gap_row_at(kind, size, place):
    """The gap row with an index in the ascending sequence of those of the size."""
    _check_listed(kind, size)
    layers = _layers(kind, size, size)
    check_between(place, 0, layers[-1][-1][size] - 1)
    row = ()
    for part in range(size, 0, -1):
        many = 0
        # The rows with fewer parts of this size stand ahead.
        while place >= _behind(layers, part, many, size):
            place -= _behind(layers, part, many, size)
            many += 1
        row = row + (part,) * many
        size -= many * part
    return row


def _behind(layers, part, many, size):
    """How many gap rows of the size go on with just so many parts of this one."""
    return layers[part - 1][len(layers[0]) - 1 - many][size - many * part]


def gap_place(kind, row):
    """The index of a gap row in the ascending sequence of those of its size."""
    check_gap_row(kind, row)
    size = sum(row)
    if size > MOST_LISTED_SIZE:
        raise InvalidOperation("the size is above 60")
    layers = _layers(kind, size, size)
    place = 0
    for part in range(size, 0, -1):
        place += sum([_behind(layers, part, many, size) for many in range(row.count(part))])
        size -= row.count(part) * part
    return place


def gap_table(kind, size):
    """The tuple that has for each m the series of the gap rows of m parts, as long as there are any."""
    _check_listed(kind, size)
    lines = [line[kind.first - 1] for line in _series_by_number(kind.order, size)]
    return tuple([tuple(series) for series in lines if max(series) > 0])


def _series_by_number(order, size):
    """The list that has for each m the list of the series of the gap rows of m parts for i = 1, 2, .., k.

    If each part of such a row with t parts 1 becomes less by 1, and these are left out, there is a
    row of m - t parts that is a gap row for k - t in the place of i.
    """
    lines = [[[1] + [0] * size] * order]
    while max(lines[-1][-1]) > 0:
        many = len(lines)
        lessened = [lines[many - ones][order - 1 - ones] for ones in range(1, min(order - 1, many) + 1)]
        # Only rows without parts 1 come from rows of m parts, so those for i = k are told by a quotient.
        others = _only_moved([sum(numbers) for numbers in zip(*lessened)], many)
        line = [_only_moved(over_one(others, many), many)]
        for series in lessened:
            line.append(_with_moved(line[-1], series, many))
        lines.append(line + [line[-1]] * (order - len(line)))
    return lines


def _only_moved(numbers, many):
    """The series, moved by so many places."""
    return _with_moved([0] * len(numbers), numbers, many)


def finite_sum(kind, greatest):
    """The sum over n that counts the gap rows of the order 2 whose parts are at most the greatest one."""
    _check_finite(kind, greatest)
    less = 2 - kind.first
    total = ()
    for number in range((greatest + 1 - less) // 2 + 1):
        poly = gaussian(greatest + 1 - less - number, number)
        total = sum_with(total, moved(poly, number * (number + less)), 1)
    return total


def _check_finite(kind, greatest):
    """Raise the first error of a kind of the order 2 and of a greatest part."""
    check_kind(kind)
    check_between(greatest, 0, MOST_GREATEST)
    if kind.order != 2:
        raise InvalidOperation("the order is not 2")


def finite_parts(kind, greatest):
    """The pair of the bounds and the box whose sum counts the same rows."""
    _check_finite(kind, greatest)
    less = 2 - kind.first
    return Bounds(5, kind.first, 1, 1), Box((greatest + 2 + less) // 2, (greatest + 1 - less) // 2)

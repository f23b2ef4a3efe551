"""Rest rows, none of whose parts leave three told remainders, and rank rows, all of whose ranks are bounded."""

from hookstrips.base.numbers import check_between
from hookstrips.diagonal.bounds import Bounds, is_bounded
from hookstrips.endless.grown import grown_series
from hookstrips.endless.series import over_parts, rows_of_parts
from hookstrips.errors import InvalidOperation, TooMany
from hookstrips.kinds.gaps import MIN_ORDER, MOST_ORDER, check_kind
from hookstrips.shape.rows import MAX_PART, check_row, is_row, ranks, row_with_columns

MAX_LISTED = 3000
MAX_SIZE = 200
MAX_ROWS = 40


def is_rest_row(kind, value):
    """Whether the value is a rest row of the kind."""
    check_kind(kind)
    return is_row(value) and all([_is_let(kind, part) for part in value])


def _is_let(kind, part):
    """Whether a part leaves none of the three remainders."""
    return part % kind.modulus not in (0, kind.first, kind.modulus - kind.first)


def is_rank_row(kind, value):
    """Whether the value is a rank row of the kind."""
    return is_bounded(rank_bounds(kind), value)


def rank_bounds(kind):
    """The bounds that the rank rows of the kind keep."""
    check_kind(kind)
    return Bounds(kind.modulus, kind.first, 1, 1)


def check_rank_row(kind, row):
    """Raise the first error of a kind and of a row that is to be a rank row of it."""
    check_kind(kind)
    check_row(row)
    if not is_rank_row(kind, row):
        raise InvalidOperation("not a rank row of the kind")


def let_parts(kind, most):
    """The ascending tuple of the let parts of the kind that are at most `most`."""
    check_kind(kind)
    check_between(most, 0, MAX_PART)
    return tuple([part for part in range(1, most + 1) if _is_let(kind, part)])


def rest_rows(kind, size):
    """The ascending tuple of all rest rows of the size."""
    _check_listed(kind, size)
    return tuple(rows_of_parts(let_parts(kind, size), size))


def _check_listed(kind, size):
    """Raise the first error of a kind and of a size of which the rows of both lots are listed."""
    check_kind(kind)
    check_between(size, 0, MAX_ROWS)
    # There are as many rows of the one lot as of the other one.
    if rest_series(kind, size)[size] > MAX_LISTED:
        raise TooMany(MAX_LISTED)


def rank_rows(kind, size):
    """The ascending tuple of all rank rows of the size."""
    _check_listed(kind, size)
    lots = _rank_columns(size, size, size, 2 - kind.first, kind.modulus - kind.first - 2)
    return tuple(sorted([row_with_columns(pairs) for pairs in lots]))


def _rank_columns(size, arms, legs, least, most):
    """The list of the tuples of columns of the size with all ranks from `least` to `most`.

    All arms are below `arms`, and all legs below `legs`.
    """
    if size == 0:
        return [()]
    found = []
    for arm in range(min(arms, size)):
        for leg in range(max(0, arm - most), min(legs, arm - least + 1, size - arm)):
            rests = _rank_columns(size - arm - leg - 1, arm, leg, least, most)
            found.extend([((arm, leg),) + pairs for pairs in rests])
    return found


def rest_series(kind, size):
    """The numbers of the rest rows of each size to this one."""
    check_kind(kind)
    check_between(size, 0, MAX_SIZE)
    return over_parts(let_parts(kind, size), 0, size)


def rank_series(kind, size):
    """The numbers of the rank rows of each size to this one, by the grown sum of their bounds."""
    check_kind(kind)
    check_between(size, 0, MAX_SIZE)
    return grown_series(rank_bounds(kind), size)


def rest_table(kind, size):
    """The dict from numbers of parts to how many rest rows of the size have so many."""
    check_kind(kind)
    check_between(size, 0, MAX_ROWS)
    # The item at n and m tells how many rows of the size n have m parts, of those let so far.
    table = [[0] * (size + 1) for _ in range(size + 1)]
    table[0][0] = 1
    for part in let_parts(kind, size):
        for at in range(part, size + 1):
            table[at] = [0] + [with_one + other for with_one, other in zip(table[at - part], table[at][1:])]
    return {many: number for many, number in enumerate(table[size]) if number > 0}


def rank_span(row):
    """The pair of the least and the greatest rank, None for ()."""
    told = ranks(row)
    return (min(told), max(told)) if told != () else None


def rank_kinds(row):
    """The ascending tuple of the pairs (k, i) of all kinds of which the row is a rank row."""
    span = rank_span(row)
    pairs = []
    for order in range(MIN_ORDER, MOST_ORDER + 1):
        for first in range(1, order + 1):
            if span is None or 2 - first <= span[0] and span[1] <= 2 * order - first - 1:
                pairs.append((order, first))
    return tuple(pairs)

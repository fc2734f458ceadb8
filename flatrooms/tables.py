"""Tables of whole numbers: determinants, the counts of signs of forms, and what adds up to nothing."""

from math import gcd

from flatrooms.errors import BadTable
from flatrooms.kinds import is_list, is_list_of_numbers


def determinant(table):
    """The determinant of a square table."""
    if not _is_square(table):
        raise BadTable("no square table")
    steps, sign = stepped(table)
    if not steps:
        return sign
    return sign * steps[-1][0]


def sign_counts(table):
    """The triple (plus, minus, nothing) of a square table that is the same about its diagonal."""
    if not _is_square(table) or not _is_mirrored(table):
        raise BadTable("no square table that is the same with rows and columns exchanged")
    left = [list(row) for row in table]
    plus = 0
    minus = 0
    before = 1
    while any([any(row) for row in left]):
        at = _pivot_at(left)
        if at is None:
            left = _with_pivot(left)
            at = _pivot_at(left)
        pivot = left[at][at]
        # The pivots are minors: where a number below 0 is met, the sign of the minor changes.
        plus += 1 if (pivot > 0) == (before > 0) else 0
        minus += 1 if (pivot > 0) != (before > 0) else 0
        left = _without(left, at, before)
        before = pivot
    return plus, minus, len(left)


def stepped(rows):
    """The steps of rows, and a sign: row by row, without the columns ahead, what is left of it.

    All rows are of one length, and at least as long as there are rows. From times of a row, times of the
    step are taken such that it begins with 0; what is left are minors of rows, once it is divided by the
    pivot before, which always comes out. So the first number of the last step is the determinant of the
    first columns, but for the sign: it tells whether an odd number of rows changed places. It is 0, and
    the steps end, if all that is left begins with 0.
    """
    left = [list(row) for row in rows]
    steps = []
    sign = 1
    before = 1
    while left:
        places = [at for at, row in enumerate(left) if row[0] != 0]
        if not places:
            return steps, 0
        step = left.pop(places[0])
        if places[0] & 1:
            sign = -sign
        left = [_cleared(row, step, before) for row in left]
        before = step[0]
        steps.append(step)
    return steps, sign


def kept_rows(rows):
    """Rows of numbers, one for each of rows, that times these add up to nothing.

    They are free of one another, and as many as can be. All of rows are of one length, one of them at least.
    """
    width = len(rows[0])
    left = []
    for at, row in enumerate(rows):
        left.append(list(row) + [1 if to == at else 0 for to in range(len(rows))])
    for at in range(width):
        pivots = [row for row in left if row[at] != 0]
        others = [row for row in left if row[at] == 0]
        left = [_divided(_cleared_at(row, pivots[0], at)) for row in pivots[1:]] + others
    return [row[width:] for row in left]


def _cleared_at(row, pivot, at):
    """Times of row, less times of pivot, that is 0 at this index."""
    return [pivot[at] * one - row[at] * other for one, other in zip(row, pivot)]


def _divided(row):
    """The row, which is not all 0, divided by the greatest number that divides all of it."""
    most = 0
    for number in row:
        most = gcd(most, number)
    return [number // most for number in row]


def _cleared(row, step, before):
    """The rest of row behind its first number, once that is 0."""
    first = row[0]
    pivot = step[0]
    return [(pivot * one - first * other) // before for one, other in zip(row[1:], step[1:])]


def _is_square(table):
    if not is_list(table):
        return False
    return all([is_list_of_numbers(row) and len(row) == len(table) for row in table])


def _is_mirrored(table):
    """Whether a square table is the same with rows and columns exchanged."""
    return [list(row) for row in table] == [list(row) for row in zip(*table)]


def _pivot_at(left):
    """The first index at which the diagonal is not 0, None if there is none."""
    for at, row in enumerate(left):
        if row[at] != 0:
            return at
    return None


def _with_pivot(left):
    """The table, whose diagonal is 0, with a row and its column added to others such that it is not."""
    places = [(at, to) for at, row in enumerate(left) for to, number in enumerate(row) if number != 0]
    at, to = places[0]
    added = [one + other for one, other in zip(left[at], left[to])]
    rows = [*left[:at], added, *left[at + 1:]]
    return [[*row[:at], row[at] + row[to], *row[at + 1:]] for row in rows]


def _without(left, at, before):
    """The table without the row and the column at, which are cleared by their pivot."""
    pivot = left[at]
    others = [row for to, row in enumerate(left) if to != at]
    cleared = [_cleared([row[at], *row], [pivot[at], *pivot], before) for row in others]
    return [[*row[:at], *row[at + 1:]] for row in cleared]

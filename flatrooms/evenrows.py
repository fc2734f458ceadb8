"""The own rows of even books, told by ways to choose."""

from math import comb

from flatrooms.errors import BadNumber
from flatrooms.kinds import is_number_within
from flatrooms.rows import row_of

MOST_EVEN = 30


def even_row(rank, size):
    """The own row of the even book, also of those that have too many things to be books."""
    if not is_number_within(size, 0, MOST_EVEN):
        raise BadNumber("size")
    if not is_number_within(rank, 0, size):
        raise BadNumber("rank")
    numbers = [1]
    for at in range(1, (rank + 1) // 2):
        ways = sum([comb(rank - at + more, more + at + 1) * comb(at - 1 + more, more) for more in range(size - rank)])
        numbers.append(comb(size, at) * ways // (rank - at))
    return row_of(numbers)

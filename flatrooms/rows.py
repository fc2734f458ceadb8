"""Rows: tuples of numbers, the last one not 0, that stand for sums of powers of t."""

from math import comb

from flatrooms.errors import BadLot, BadRow
from flatrooms.flatorders import flat_in, order_of, signs_over
from flatrooms.kinds import is_list_of_numbers


def is_row(thing):
    """Whether thing, any value, is a tuple of numbers whose last one is not 0."""
    if not isinstance(thing, tuple) or not is_list_of_numbers(thing):
        return False
    return thing == () or thing[-1] != 0


def row_product(one, other):
    """The product of two rows."""
    if not is_row(one) or not is_row(other):
        raise BadRow("no row")
    total = [0] * (len(one) + len(other))
    add_product(total, one, other, 0)
    return row_of(total)


def between(book, flat, other):
    """The row of the signs over flat of the flats up to other, by how many ranks they lie below it."""
    order = order_of(book)
    low = flat_in(order, flat)
    high = flat_in(order, other)
    if low & high != low:
        raise BadLot("not each thing of the first flat is in the other one")
    return _between(order, signs_over(order.ranks, low), low, high)


def between_rows(order):
    """The dict from all pairs of flats, one within the other, to their rows between."""
    found = {}
    for low in order.ranks:
        signs = signs_over(order.ranks, low)
        for high in signs:
            found[(low, high)] = _between(order, signs, low, high)
    return found


def row_of(numbers):
    """The row of these numbers, zeros at the end left out."""
    length = len(numbers)
    while length > 0 and numbers[length - 1] == 0:
        length -= 1
    return tuple(numbers[:length])


def add_product(total, one, other, by):
    """Adds the product of two rows to total, so many powers higher."""
    for at, number in enumerate(one):
        for to, more in enumerate(other):
            total[at + to + by] += number * more


def middle_of(numbers):
    """The tuple of g(k), up to half of d, for which numbers are the sum of all g(k) * t ** k * (1 + t) ** (d - 2 * k).

    The numbers are those at the powers of t from 0 to d, the same backwards.
    """
    left = list(numbers)
    found = []
    for at in range((len(left) + 1) // 2):
        number = left[at]
        powers = len(left) - 1 - 2 * at
        add_product(left, [comb(powers, more) for more in range(powers + 1)], (-number,), at)
        found.append(number)
    return tuple(found)


def _between(order, signs, low, high):
    row = [0] * (order.ranks[high] - order.ranks[low] + 1)
    for flat in signs:
        if flat & high == flat:
            row[order.ranks[high] - order.ranks[flat]] += signs[flat]
    # Its last number is the sign of low over itself, 1.
    return tuple(row)

"""Sums of flats, and their products by joins."""

from flatrooms.errors import BadSum
from flatrooms.flatorders import flat_in, joined, numbers_of, order_of, signs_over


def join(book, one, other):
    """The closure of two flats together."""
    order = order_of(book)
    first = flat_in(order, one)
    second = flat_in(order, other)
    return order.lots[joined(order, first, second)]


def flats_joined(book, one, other):
    """The product of two sums of flats: each two of them come to their join."""
    order = order_of(book)
    first = _sum_in(order, one)
    second = _sum_in(order, other)
    return _lots_sum(order, _product(order, first, second, False))


def flats_graded(book, one, other):
    """The product of two sums of flats: each two come to their join if their ranks add up to its rank."""
    order = order_of(book)
    first = _sum_in(order, one)
    second = _sum_in(order, other)
    return _lots_sum(order, _product(order, first, second, True))


def single_sums(book):
    """The ascending dict from each flat to the signs of all flats over it."""
    order = order_of(book)
    found = {order.lots[low]: _lots_sum(order, signs_over(order.ranks, low)) for low in order.ranks}
    return {flat: found[flat] for flat in sorted(found)}


def _sum_in(order, thing):
    """A sum of flats with masks for them; raises unless thing, any value, is one."""
    numbers = numbers_of(order, thing)
    if numbers is None:
        raise BadSum("no dict from flats of the book to numbers")
    return numbers


def _product(order, one, other, is_graded):
    total = {}
    for first in one:
        for second in other:
            flat = joined(order, first, second)
            if not is_graded or order.ranks[flat] == order.ranks[first] + order.ranks[second]:
                total[flat] = total.get(flat, 0) + one[first] * other[second]
    return total


def _lots_sum(order, numbers):
    """The ascending sum of flats with lots for the masks."""
    found = {order.lots[flat]: numbers[flat] for flat in numbers if numbers[flat] != 0}
    return {lot: found[lot] for lot in sorted(found)}

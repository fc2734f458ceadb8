"""The table of the numbers of all joins, and its determinant."""

from flatrooms.errors import BadTable
from flatrooms.flatorders import joined, numbers_of, order_of, signs_over


def join_table(book, numbers):
    """The square that has for each two flats the number of their join."""
    order = order_of(book)
    told = _numbers_in(order, numbers)
    return tuple([tuple([told[joined(order, low, other)] for other in order.ranks]) for low in order.ranks])


def told_determinant(book, numbers):
    """The determinant of join_table, told by the signs of flats over flats."""
    order = order_of(book)
    told = _numbers_in(order, numbers)
    product = 1
    for low in order.ranks:
        signs = signs_over(order.ranks, low)
        product *= sum([signs[flat] * told[flat] for flat in signs])
    return product


def _numbers_in(order, thing):
    """A dict from the masks of all flats to numbers; raises unless thing, any value, is one from flats."""
    told = numbers_of(order, thing)
    if told is None or len(told) != len(order.ranks):
        raise BadTable("no dict from just all flats of the book to numbers")
    return told

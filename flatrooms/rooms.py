"""Sums of towers, and their sums and products by the rules of the room."""

from flatrooms.errors import BadNumber, BadSum
from flatrooms.insides import degree_of, last_of, sum_power, sum_product, tidied_sum
from flatrooms.kinds import is_number
from flatrooms.towers import is_tower, lots_tower, mask_tower, room_of


def tidied(book, towers):
    """The sum of tidy towers that a sum of towers is."""
    return tidied_in(room_of(book), towers)


def multiplied(book, one, other):
    """The product of two sums of towers, tidied."""
    return multiplied_in(room_of(book), one, other)


def added(book, one, other, times):
    """One sum of towers and times the other one, tidied."""
    room = room_of(book)
    total = mask_sum(room, one)
    second = mask_sum(room, other)
    if not is_number(times):
        raise BadNumber("times")
    for tower in second:
        total[tower] = total.get(tower, 0) + times * second[tower]
    return lots_sum(room, tidied_sum(room, total))


def powered(book, one, many):
    """The product of so many factors one, tidied."""
    return powered_in(room_of(book), one, many)


def last_number(book, towers):
    """The number of a sum of towers of degree rank - 1, if the one of each full tower is 1."""
    return last_in(room_of(book), towers)


def tidied_in(room, towers):
    return lots_sum(room, tidied_sum(room, mask_sum(room, towers)))


def multiplied_in(room, one, other):
    first = mask_sum(room, one)
    second = mask_sum(room, other)
    return lots_sum(room, sum_product(room, first, second))


def powered_in(room, one, many):
    factor = mask_sum(room, one)
    if not is_number(many) or many < 0:
        raise BadNumber("many")
    return lots_sum(room, sum_power(room, factor, many))


def last_in(room, towers):
    """The last number of a sum of towers; raises unless all are of the greatest degree."""
    total = mask_sum(room, towers)
    if not all([degree_of(tower) == room.most for tower in total]):
        raise BadSum("not all towers are of the greatest degree")
    return last_of(room, total)


def mask_sum(room, towers):
    """A new sum of towers with masks for the flats, those with the number 0 among them.

    Raises if towers, any value, is no sum of towers.
    """
    if not isinstance(towers, dict):
        raise BadSum("no dict")
    if not all([is_tower(room, tower) and is_number(towers[tower]) for tower in towers]):
        raise BadSum("not from towers of the book to numbers")
    return {mask_tower(room, tower): towers[tower] for tower in towers}


def lots_sum(room, towers):
    """The ascending sum of towers with flats for the masks."""
    found = {lots_tower(room, tower): towers[tower] for tower in towers}
    return {tower: found[tower] for tower in sorted(found)}

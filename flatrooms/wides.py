"""The wider room: its tidy towers, its products, and its last numbers."""

from flatrooms.insides import Room
from flatrooms.rooms import last_in, multiplied_in, powered_in, tidied_in
from flatrooms.towers import need_room, sizes_in, towers_in


def wide_towers(book, degree):
    """The ascending list of the wide tidy towers of this degree."""
    return towers_in(wide_room_of(book), degree)


def wide_sizes(book):
    """The tuple of how many wide tidy towers there are, for degrees from 0 to rank."""
    return sizes_in(wide_room_of(book))


def wide_tidied(book, towers):
    """The sum of wide tidy towers that a sum of towers is."""
    return tidied_in(wide_room_of(book), towers)


def wide_multiplied(book, one, other):
    """The product of two sums of towers, as wide tidy towers."""
    return multiplied_in(wide_room_of(book), one, other)


def wide_powered(book, one, many):
    """The product of so many factors one, as wide tidy towers."""
    return powered_in(wide_room_of(book), one, many)


def wide_last(book, towers):
    """The last number of a sum of towers of degree rank."""
    return last_in(wide_room_of(book), towers)


def wide_room_of(book):
    """The wider room of a book; raises for what has none."""
    need_room(book)
    # The first flat of a tidy tower may have as many times as ranks, one more than in the room.
    return Room(book, -1)

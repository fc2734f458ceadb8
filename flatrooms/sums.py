"""The two sums of letters that a thing tells: of the flats that have it, of those that have it not."""

from flatrooms.insides import letter_sum
from flatrooms.rooms import lots_sum
from flatrooms.towers import room_of


def outer_sum(book):
    """The sum of the letters of all flats that have thing 0, but for that of all things."""
    room = room_of(book)
    return lots_sum(room, outer_in(room))


def inner_sum(book):
    """The sum of the letters of all flats that have not thing 0."""
    room = room_of(book)
    return lots_sum(room, inner_in(room))


def outer_in(room):
    """outer_sum with masks for the flats."""
    return letter_sum(room, {flat: 1 for flat in room.ranks if flat & 1 and flat != room.top})


def inner_in(room):
    """inner_sum with masks for the flats."""
    return letter_sum(room, {flat: 1 for flat in room.ranks if not flat & 1})

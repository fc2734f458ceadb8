"""The second slopes of the volume of weights."""

from flatrooms.errors import BadNumber
from flatrooms.insides import sum_power, told_table
from flatrooms.towers import room_of
from flatrooms.weights import weight_in


def second_slopes(book, weights):
    """The last numbers of each two letters, but that of all things, times weight_sum to the power rank - 3."""
    room = room_of(book)
    if room.rank < 3:
        raise BadNumber("rank")
    rest = sum_power(room, weight_in(room, weights), room.rank - 3)
    flats = sorted([room.lots[flat] for flat in room.ranks if flat != room.top])
    letters = [((room.masks[flat], 1),) for flat in flats]
    return told_table(room, letters, letters, rest)

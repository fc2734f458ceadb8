"""The last number of a tower, told without the rules of the room."""

from math import comb

from flatrooms.errors import BadTower
from flatrooms.insides import degree_of
from flatrooms.parts import book_beyond, book_within
from flatrooms.sides import cut_short
from flatrooms.signs import short_row
from flatrooms.towers import is_tower, mask_tower, room_of


def tower_number(book, tower):
    """The number of a tower of degree rank - 1."""
    room = room_of(book)
    if not is_tower(room, tower) or degree_of(tower) != room.rank - 1:
        raise BadTower("no tower of the book of degree rank - 1")
    return number_of(Gaps(book, room), mask_tower(room, tower))


class Gaps:
    """The books between flats of a book, and their short rows as far as they are known."""

    def __init__(self, book, room):
        self.book = book
        self.room = room
        self.rows = {}


def number_of(gaps, tower):
    """tower_number of a tower of masks."""
    room = gaps.room
    lower = [(flat, times) for flat, times in tower if flat != room.top]
    cuts = degree_of(tower) - degree_of(lower)
    ends = [flat for flat, _ in lower[1:]] + [room.top]
    number = 1
    degree = 0
    for (flat, times), end in zip(lower, ends):
        degree += times
        place = degree - room.ranks[flat]
        row = _row_between(gaps, flat, end, cuts if end == room.top else 0)
        if place < 0 or place >= len(row):
            return 0
        number *= comb(times - 1, place) * row[place]
    return -number if (room.rank - 1 - len(lower)) & 1 else number


def _row_between(gaps, low, high, cuts):
    """The short row of the things of high outside of low, cut short so often; () if nothing is left."""
    if (low, high, cuts) not in gaps.rows:
        gaps.rows[(low, high, cuts)] = _worked_out(gaps, low, high, cuts)
    return gaps.rows[(low, high, cuts)]


def _worked_out(gaps, low, high, cuts):
    room = gaps.room
    flat = room.lots[high]
    places = tuple([at for at, thing in enumerate(flat) if low >> thing & 1])
    book = book_beyond(book_within(gaps.book, flat), places)
    if cuts >= book.rank:
        return ()
    for _ in range(cuts):
        book = cut_short(book)
    return short_row(book)

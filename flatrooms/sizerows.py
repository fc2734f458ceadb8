"""The sizes of the room, told by signs and by a thing left out, and their middle row."""

from flatrooms.flats import above, below
from flatrooms.leavings import flats_with_and_without, need_leaving
from flatrooms.ranks import sure
from flatrooms.rows import add_product, middle_of
from flatrooms.sides import left_out
from flatrooms.signs import short_row
from flatrooms.towers import room_of, room_sizes


def sizes_by_signs(book):
    """room_sizes, told by the short rows of the books below flats."""
    room = room_of(book)
    sizes = [0] * room.rank
    for mask in room.ranks:
        flat = room.lots[mask]
        row = short_row(below(book, flat))
        lower = [-number if at & 1 else number for at, number in enumerate(row)]
        upper = room_sizes(above(book, flat)) if mask != room.top else (1,)
        add_product(sizes, lower[::-1], upper, 0)
    return tuple(sizes)


def sizes_by_thing(book, thing):
    """room_sizes, told by the books that a thing left out leads to."""
    room = room_of(book)
    need_leaving(room, thing)
    sizes = [0] * room.rank
    left = room_sizes(left_out(book, thing))
    add_product(sizes, left, (1,), 0)
    if thing in sure(book):
        add_product(sizes, left, (1,), 1)
    for flat in flats_with_and_without(room, thing):
        joined = tuple(sorted([*flat, thing]))
        add_product(sizes, room_sizes(below(book, flat)), room_sizes(above(book, joined)), 1)
    return tuple(sizes)


def middle_row(book):
    """The numbers g(k) for which room_sizes are the sum of all g(k) * t ** k * (1 + t) ** (rank - 1 - 2 * k)."""
    return middle_of(room_sizes(book))

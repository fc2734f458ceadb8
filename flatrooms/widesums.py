"""What the further letters of the wider room are: those of things, the bare one, and products of them."""

from flatrooms.errors import BadLot, BadThing
from flatrooms.insides import letter_sum, product_of_sums
from flatrooms.kinds import is_lot, is_number_within
from flatrooms.rooms import lots_sum
from flatrooms.wides import wide_room_of


def thing_letter(book, thing):
    """The letter of a thing."""
    room = wide_room_of(book)
    if not is_number_within(thing, 0, room.size - 1):
        raise BadThing("no thing of the book")
    return lots_sum(room, _thing_in(room, thing))


def bare_letter(book):
    """The letter of the flat of rank 0."""
    room = wide_room_of(book)
    return lots_sum(room, letter_sum(room, {flat: -1 for flat in room.ranks}))


def lot_letter(book, lot):
    """The product of the letters of all things of lot."""
    room = wide_room_of(book)
    if not is_lot(lot, room.size):
        raise BadLot("no lot of the things of the book")
    return lots_sum(room, product_of_sums(room, [_thing_in(room, thing) for thing in lot]))


def _thing_in(room, thing):
    return letter_sum(room, {flat: -1 for flat in room.ranks if flat >> thing & 1})

"""A thing left out: the flats that are flats with it and without it, and the room of the other things led in."""

from flatrooms.errors import BadThing
from flatrooms.insides import tidied_sum
from flatrooms.kinds import is_number_within
from flatrooms.letters import replaced
from flatrooms.masks import mask_among
from flatrooms.rooms import lots_sum, mask_sum
from flatrooms.sides import left_out
from flatrooms.towers import room_of


def both_flats(book, thing):
    """The ascending list of the flats of rank 1 or more that are flats with thing and without it.

    That of all other things is not among them.
    """
    room = room_of(book)
    need_leaving(room, thing)
    return flats_with_and_without(room, thing)


def led_in(book, thing, towers):
    """A sum of towers of left_out(book, thing), with the letters of book."""
    room = room_of(book)
    need_leaving(room, thing)
    left = room_of(left_out(book, thing))
    total = tidied_sum(left, mask_sum(left, towers))
    return lots_sum(room, replaced(room, {(): 1}, total, letters_led(room, left, thing)))


def need_leaving(room, thing):
    """Raises unless thing is a thing of the book of the room, and not the only one."""
    if room.size < 2 or not is_number_within(thing, 0, room.size - 1):
        raise BadThing("no thing of a book of two things or more")


def flats_with_and_without(room, thing):
    """both_flats of a room."""
    bit = 1 << thing
    masks = [flat for flat in room.ranks if not flat & bit and flat | bit in room.ranks]
    return sorted([room.lots[flat] for flat in masks if flat | bit != room.top])


def letters_led(room, left, thing):
    """The dict from the flats of left, the room of the other things, to sums that replace their letters."""
    others = [other for other in range(room.size) if other != thing]
    bit = 1 << thing
    letters = {}
    for flat in left.ranks:
        same = mask_among(others, left.lots[flat])
        letters[flat] = {((mask, 1),): 1 for mask in (same, same | bit) if mask in room.ranks}
    return letters

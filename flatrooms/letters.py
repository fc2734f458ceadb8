"""The letter of a flat, times sums of the books below and above this flat."""

from flatrooms.errors import BadLot
from flatrooms.flats import above, below
from flatrooms.insides import letter_sum, sum_product, tidied_sum
from flatrooms.kinds import is_lot
from flatrooms.masks import mask_among, mask_of
from flatrooms.parts import things_beyond
from flatrooms.rooms import lots_sum, mask_sum
from flatrooms.towers import room_of


def by_letter(book, flat, low, high):
    """The letter of flat, times a sum of below(book, flat), times one of above(book, flat)."""
    room = room_of(book)
    if not is_lot(flat, book.size) or flat not in room.masks or len(flat) == book.size:
        raise BadLot("no flat of rank 1 or more, but not all things")
    inner = room_of(below(book, flat))
    outer = room_of(above(book, flat))
    first = tidied_sum(inner, mask_sum(inner, low))
    second = tidied_sum(outer, mask_sum(outer, high))
    letter = letter_sum(room, {room.masks[flat]: 1})
    product = replaced(room, letter, first, letters_below(inner, flat))
    others = things_beyond(book, flat)
    return lots_sum(room, replaced(room, product, second, letters_above(outer, flat, others)))


def letters_below(inner, flat):
    """The dict from the flats of inner, the room of the things of flat, to sums that replace their letters."""
    known = {mask: mask_among(flat, inner.lots[mask]) for mask in inner.ranks}
    letters = {mask: {((known[mask], 1),): 1} for mask in known}
    first = mask_of(flat[:1])
    letters[inner.top] = {((known[mask], 1),): -1 for mask in known if mask != inner.top and known[mask] & first}
    return letters


def letters_above(outer, flat, others):
    """The dict from the flats of outer, the room of the other things, to sums that replace their letters."""
    base = mask_of(flat)
    return {mask: {((base | mask_among(others, outer.lots[mask]), 1),): 1} for mask in outer.ranks}


def replaced(room, start, towers, letters):
    """A tidy sum of room, times a sum of towers in which what letters has for a flat stands for its letter."""
    known = {(): start}
    total = {}
    for tower in towers:
        part = _led(room, known, tower, letters)
        for found in part:
            total[found] = total.get(found, 0) + towers[tower] * part[found]
    return {tower: total[tower] for tower in total if total[tower] != 0}


def _led(room, known, tower, letters):
    """What replaced makes of one tower, kept in known."""
    if tower not in known:
        flat, times = tower[-1]
        shorter = tower[:-1] + (((flat, times - 1),) if times > 1 else ())
        known[tower] = sum_product(room, _led(room, known, shorter, letters), letters[flat])
    return known[tower]

"""Sums of towers led to the book cut short."""

from flatrooms.errors import BadBook
from flatrooms.insides import tidied_sum
from flatrooms.rooms import lots_sum, mask_sum
from flatrooms.sides import cut_short
from flatrooms.towers import room_of


def cut_led(book, towers):
    """A sum of towers of book, without those that have a flat of rank - 1, as one of cut_short(book)."""
    room = room_of(book)
    if room.rank == 1:
        raise BadBook("cut")
    total = mask_sum(room, towers)
    short = room_of(cut_short(book))
    # The flats of the book cut short are those of book, but for the ones of this rank.
    lost = room.rank - 1
    kept = {tower: total[tower] for tower in total if all([room.ranks[flat] != lost for flat, _ in tower])}
    return lots_sum(short, tidied_sum(short, kept))

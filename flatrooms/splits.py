"""The parts of the room at a thing: what is led in without it, and what stands at the flats beside it."""

from flatrooms.errors import BadLot
from flatrooms.flats import above, below
from flatrooms.insides import degree_of, last_of, letter_sum, sum_product, tidied_sum
from flatrooms.kinds import is_lot
from flatrooms.leavings import flats_with_and_without, letters_led, need_leaving
from flatrooms.letters import letters_above, letters_below, replaced
from flatrooms.pairing import told_in
from flatrooms.parts import things_beyond
from flatrooms.ranks import sure
from flatrooms.rooms import lots_sum, mask_sum
from flatrooms.sides import left_out
from flatrooms.towers import room_of, tidy_masks


def by_thing(book, thing, flat, low, high):
    """The letter of flat with thing, times a sum of below(book, flat), times one of above that flat with thing."""
    room = room_of(book)
    need_leaving(room, thing)
    if not is_lot(flat, book.size) or flat not in flats_with_and_without(room, thing):
        raise BadLot("no flat that is one with and without the thing")
    beside = Beside(book, room, thing, flat)
    first = tidied_sum(beside.inner, mask_sum(beside.inner, low))
    second = tidied_sum(beside.outer, mask_sum(beside.outer, high))
    return lots_sum(room, _by_thing_in(room, beside, beside.letter, first, second))


def split_by(book, thing, towers):
    """The ascending dict that tells the parts at a thing which add up to a sum of towers."""
    room = room_of(book)
    need_leaving(room, thing)
    total = tidied_sum(room, mask_sum(room, towers))
    by_degree = _by_degree(total)
    parts = {}
    for flat in flats_with_and_without(room, thing):
        parts[flat] = _part_beside(room, Beside(book, room, thing, flat), by_degree)
    if thing in sure(book):
        parts[things_beyond(book, (thing,))] = _part_of_others(book, room, thing, by_degree)
    # The parts add up to the whole: what is led in alone is all that is left.
    rest = {tower: total[tower] for tower in total}
    for flat in parts:
        _add(rest, parts[flat], -1)
    parts[()] = rest
    return {flat: lots_sum(room, tidied_sum(room, parts[flat])) for flat in sorted(parts)}


class Beside:
    """A flat that is one with a thing and without it: the rooms below and above, and what replaces their letters.

    letter is the letter of the flat with the thing, as a tidy sum.
    """

    def __init__(self, book, room, thing, flat):
        joined = tuple(sorted([*flat, thing]))
        self.inner = room_of(below(book, flat))
        self.outer = room_of(above(book, joined))
        self.letter = letter_sum(room, {room.masks[joined]: 1})
        letters = letters_below(self.inner, flat)
        self.inner_letters = {mask: _with_thing(letters[mask], 1 << thing) for mask in letters}
        self.outer_letters = letters_above(self.outer, joined, things_beyond(book, joined))


def _by_degree(total):
    """The dict from degrees from 1 on to the towers of this degree in a sum."""
    found = {}
    for degree in sorted({degree_of(tower) for tower in total}):
        if degree > 0:
            found[degree] = {tower: total[tower] for tower in total if degree_of(tower) == degree}
    return found


def _with_thing(letters, bit):
    """A sum of letters, to each of which that of its flat with a thing more is added."""
    found = {}
    for tower in letters:
        flat = tower[0][0]
        found[((flat, 1),)] = letters[tower]
        found[((flat | bit, 1),)] = letters[tower]
    return found


def _by_thing_in(room, beside, start, low, high):
    """A tidy sum times low and high with their letters replaced."""
    return replaced(room, replaced(room, start, low, beside.inner_letters), high, beside.outer_letters)


def _part_beside(room, beside, by_degree):
    """The part that stands at this flat."""
    part = {}
    for degree in by_degree:
        led = sum_product(room, by_degree[degree], beside.letter)
        for low in range(min(degree, beside.inner.rank)):
            high = degree - 1 - low
            if high <= beside.outer.most:
                _add(part, _piece_beside(room, beside, led, low, high), 1)
    return part


def _piece_beside(room, beside, led, low, high):
    """What stands at this flat by towers of the degrees low, below, and high, above.

    The last numbers of the whole times all by_thing of the opposite degrees tell it: those of all other parts
    are 0. led is the whole times the letter of the flat with the thing.
    """
    inner = beside.inner
    outer = beside.outer
    ends = tidy_masks(outer, outer.most - high)
    rows = []
    for one in tidy_masks(inner, inner.most - low):
        begun = replaced(room, led, {one: 1}, beside.inner_letters)
        numbers = [last_of(room, replaced(room, begun, {end: 1}, beside.outer_letters)) for end in ends]
        rows.append(told_in(outer, high, numbers))
    piece = {}
    for tower in tidy_masks(outer, high):
        # Both last numbers, below and above, multiplied, are minus the one in the room.
        under = told_in(inner, low, [-row.get(tower, 0) for row in rows])
        _add(piece, _by_thing_in(room, beside, beside.letter, under, {tower: 1}), 1)
    return piece


def _part_of_others(book, room, thing, by_degree):
    """The part that is the letter of all other things times what is led in; thing is sure.

    The last numbers of the whole times all that is led in tell it: what is led in alone has none with these,
    for the degrees are together too great for the book of the other things.
    """
    left = room_of(left_out(book, thing))
    letters = letters_led(room, left, thing)
    letter = letter_sum(room, {room.top ^ (1 << thing): 1})
    part = {}
    for degree in by_degree:
        ends = tidy_masks(left, room.most - degree)
        numbers = [last_of(room, replaced(room, by_degree[degree], {end: 1}, letters)) for end in ends]
        _add(part, replaced(room, letter, told_in(left, degree - 1, numbers), letters), 1)
    return part


def _add(total, towers, times):
    """Adds times towers to total."""
    for tower in towers:
        total[tower] = total.get(tower, 0) + times * towers[tower]

"""Opposite parts of the wider room, weights that rise, and the forms of their sums."""

from flatrooms.errors import BadNumber, BadSum, BadWeights
from flatrooms.forms import form_rows
from flatrooms.insides import letter_sum
from flatrooms.kinds import is_number_within
from flatrooms.masks import bits_of
from flatrooms.pairing import opposite_rows
from flatrooms.parts import things_beyond
from flatrooms.rooms import lots_sum
from flatrooms.steps import step_sums
from flatrooms.weights import bend_by, is_weights, mask_weights
from flatrooms.wides import wide_room_of


def wide_pairing(book, degree):
    """The last numbers of the products of the wide tidy towers of degree and of the opposite degree."""
    room = wide_room_of(book)
    if not is_number_within(degree, 0, room.most):
        raise BadNumber("degree")
    return opposite_rows(room, degree)


def is_rising(book, thing):
    """Whether thing, any value, are rising weights of book."""
    return _are_rising(wide_room_of(book), thing)


def rising_sum(book, weights):
    """The sum of the letters of all flats but that of all things, each times the weight of the other things."""
    room = wide_room_of(book)
    if not _are_rising(room, weights):
        raise BadWeights("no rising weights of the book")
    every = weights[tuple(range(room.size))]
    # The bare letter is less all other letters: its weight comes off that of each of them.
    numbers = {flat: weights[things_beyond(book, room.lots[flat])] - every for flat in room.ranks}
    return lots_sum(room, letter_sum(room, numbers))


def wide_form(book, sums, degree):
    """The last numbers of each two wide tidy towers of degree, multiplied, times all of sums."""
    room = wide_room_of(book)
    if not is_number_within(degree, 0, room.most // 2):
        raise BadNumber("degree")
    steps = step_sums(room, sums)
    if len(steps) != room.most - 2 * degree:
        raise BadSum("not rank - 2 * degree sums")
    return form_rows(room, degree, steps)


def _are_rising(room, thing):
    if not is_weights(room.size, thing):
        return False
    table = mask_weights(thing)
    return _rises(table) and bend_by(table, 1)


def _rises(table):
    """Whether weights, told by mask_weights, are greater for each lot with a thing more."""
    for mask in range(len(table)):
        if any([table[mask ^ bit] >= table[mask] for bit in bits_of(mask)]):
            return False
    return True

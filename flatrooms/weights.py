"""Weights of lots, whether they bend, and the sums of letters that they tell."""

from flatrooms.books import MOST
from flatrooms.errors import BadNumber, BadWeights
from flatrooms.insides import letter_sum
from flatrooms.kinds import is_lot, is_number, is_number_within
from flatrooms.masks import mask_of
from flatrooms.rooms import lots_sum
from flatrooms.towers import room_of


def is_weights(size, thing):
    """Whether thing, any value, is a dict from all lots of so many things to numbers, 0 at ()."""
    if not is_number_within(size, 0, MOST):
        raise BadNumber("size")
    if not isinstance(thing, dict) or len(thing) != 1 << size:
        return False
    if not all([is_lot(lot, size) and is_number(thing[lot]) for lot in thing]):
        return False
    return thing[()] == 0


def bends(size, weights, amount):
    """Whether two lots weigh at least amount more than what they are together and what they share."""
    # is_weights refuses a size that is none.
    if not is_weights(size, weights):
        raise BadWeights("no weights for the size")
    if not is_number(amount):
        raise BadNumber("amount")
    return bend_by(mask_weights(weights), amount)


def weight_sum(book, weights):
    """The sum of the letters of all flats that have one, each times its weight."""
    room = room_of(book)
    return lots_sum(room, weight_in(room, weights))


def weight_in(room, weights):
    """weight_sum with masks for the flats; raises unless weights are some for the book of the room."""
    if not is_weights(room.size, weights):
        raise BadWeights("no weights for the size of the book")
    return letter_sum(room, {flat: weights[room.lots[flat]] for flat in room.ranks})


def mask_weights(weights):
    """The list that has the weight of each mask."""
    table = [0] * len(weights)
    for lot in weights:
        table[mask_of(lot)] = weights[lot]
    return table


def bend_by(table, amount):
    """Whether weights, told by mask_weights, bend by this amount."""
    for one in range(len(table)):
        # A lot that has all things of another one has the greater mask: other does not have those of one.
        for other in range(one):
            both = one | other
            if both != one and table[one] + table[other] < table[both] + table[one & other] + amount:
                return False
    return True

"""The volume of weights, and the rows of numbers that tell it."""

from math import factorial

from flatrooms.insides import flats_over, last_of, sum_power
from flatrooms.rooms import lots_sum
from flatrooms.towernumbers import Gaps, number_of
from flatrooms.towers import room_of
from flatrooms.weights import weight_in


def volume_rows(book):
    """The ascending dict from towers of degree rank - 1 to their numbers, as often as their letters can stand."""
    room = room_of(book)
    gaps = Gaps(book, room)
    found = {}
    for tower in _towers_over(room, 0, room.rank - 1):
        number = number_of(gaps, tower)
        if number != 0:
            found[tower] = number * _sequences(tower, room.rank - 1)
    return lots_sum(room, found)


def volume(book, weights):
    """The last number of weight_sum to the power rank - 1."""
    room = room_of(book)
    return last_of(room, sum_power(room, weight_in(room, weights), room.rank - 1))


def _towers_over(room, low, degree):
    """The list of all towers, of masks, of this degree whose flats lie over low."""
    if degree == 0:
        return [()]
    found = []
    for flat in flats_over(room, low):
        for times in range(1, degree + 1):
            for rest in _towers_over(room, flat, degree - times):
                found.append(((flat, times), *rest))
    return found


def _sequences(tower, degree):
    """In how many sequences the letters of a tower of this degree can stand."""
    many = factorial(degree)
    for _, times in tower:
        many = many // factorial(times)
    return many

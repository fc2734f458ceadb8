"""Mixed powers of two sums, and the chains of flats that count them."""

from flatrooms.errors import BadNumber
from flatrooms.flats import flats
from flatrooms.insides import last_of_product, sum_product
from flatrooms.kinds import is_number_within
from flatrooms.sums import inner_in, outer_in
from flatrooms.towers import room_of
from flatrooms.weights import weight_in


def mixed_numbers(book):
    """The last numbers of powers of outer_sum times powers of inner_sum, from inner power 0 on."""
    room = room_of(book)
    return _mixed(room, outer_in(room), inner_in(room))


def mixed_volumes(book, one, other):
    """The last numbers of powers of one weight_sum times powers of the other one, from other power 0 on."""
    room = room_of(book)
    first = weight_in(room, one)
    second = weight_in(room, other)
    return _mixed(room, first, second)


def falling_chains(book, length):
    """The ascending list of chains of flats of rank 1, 2, .. without thing 0, whose least things fall."""
    room = room_of(book)
    if not is_number_within(length, 0, room.rank - 1):
        raise BadNumber("length")
    by_rank = flats(book)
    chains = [()]
    for rank in range(1, length + 1):
        longer = []
        for chain in chains:
            longer.extend([chain + (flat,) for flat in by_rank[rank] if flat[0] != 0 and _falls_to(chain, flat)])
        chains = longer
    return sorted(chains)


def _falls_to(chain, flat):
    """Whether the last flat of chain, if there is one, lies in flat and has a greater least thing."""
    if chain == ():
        return True
    last = chain[-1]
    return flat[0] < last[0] and all([thing in flat for thing in last])


def _mixed(room, one, other):
    first = _powers(room, one)
    second = _powers(room, other)
    return tuple([last_of_product(room, first[-1 - at], second[at]) for at in range(room.rank)])


def _powers(room, one):
    """The powers of a sum, from 0 to rank - 1."""
    found = [{(): 1}]
    for _ in range(room.rank - 1):
        found.append(sum_product(room, found[-1], one))
    return found

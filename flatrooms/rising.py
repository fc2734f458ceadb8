"""How many flats there are of each rank, and the steps from one rank to a greater one."""

from flatrooms.errors import BadNumber, BadTable
from flatrooms.flatorders import flats_of_rank, joined, numbers_of, order_of
from flatrooms.kinds import is_number_within


def flat_row(book):
    """The tuple of how many flats there are of each rank."""
    order = order_of(book)
    return tuple([len(flats_of_rank(order, rank)) for rank in range(order.rank + 1)])


def rise_table(book, weights, low, high):
    """The numbers of the flats of rank high in the flats of rank low times high - low sums of weighted flats."""
    order = order_of(book)
    told = _weights_in(order, weights)
    need_ranks(order, low, high)
    steps = {flat: _step(order, told, flat) for flat in order.ranks}
    ends = flats_of_rank(order, high)
    rows = []
    for flat in flats_of_rank(order, low):
        led = {flat: 1}
        for _ in range(high - low):
            led = _led(steps, led)
        rows.append(tuple([led.get(end, 0) for end in ends]))
    return tuple(rows)


def is_modular(book):
    """Whether the ranks of each two flats are together those of their join and of what they have in common."""
    order = order_of(book)
    for one in order.ranks:
        for other in order.ranks:
            if order.ranks[one] + order.ranks[other] != order.table[one | other] + order.table[one & other]:
                return False
    return True


def need_ranks(order, low, high):
    """Raises unless low is a rank of flats, and high another one that is not less."""
    if not is_number_within(low, 0, order.rank):
        raise BadNumber("low")
    if not is_number_within(high, low, order.rank):
        raise BadNumber("high")


def _weights_in(order, thing):
    """A dict from the masks of the flats of rank 1 to weights; raises unless thing, any value, has those."""
    told = numbers_of(order, thing)
    if told is None or sorted(told) != sorted(flats_of_rank(order, 1)):
        raise BadTable("no dict from just all flats of rank 1 to numbers")
    if not all([told[flat] >= 1 for flat in told]):
        raise BadTable("a weight below 1")
    return told


def _step(order, told, flat):
    """The sum that the graded product of a flat and the sum of the weighted flats of rank 1 is."""
    total = {}
    for single in told:
        higher = joined(order, flat, single)
        # With a flat that it has already, the ranks do not add up.
        if higher != flat:
            total[higher] = total.get(higher, 0) + told[single]
    return total


def _led(steps, numbers):
    """A sum of flats, each led one step on."""
    total = {}
    for flat in numbers:
        for higher in steps[flat]:
            total[higher] = total.get(higher, 0) + numbers[flat] * steps[flat][higher]
    return total

"""Flats of one rank led to greater ones of another rank, no two to the same one; or what bars this."""

from flatrooms.flatorders import flats_of_rank, order_of
from flatrooms.rising import need_ranks


def rise_map(book, low, high):
    """An ascending dict from each flat of rank low to one of rank high of its own that has it, None without one."""
    order = order_of(book)
    need_ranks(order, low, high)
    partners, bar = _paired(_flats_above(order, low, high))
    if bar:
        return None
    found = {order.lots[partners[flat]]: order.lots[flat] for flat in partners}
    return {lot: found[lot] for lot in sorted(found)}


def rise_bar(book, low, high):
    """An ascending list of flats of rank low that fewer flats of rank high have, None if there is a rise_map."""
    order = order_of(book)
    need_ranks(order, low, high)
    _, bar = _paired(_flats_above(order, low, high))
    if not bar:
        return None
    return sorted([order.lots[flat] for flat in bar])


def _flats_above(order, low, high):
    """The dict from the flats of rank low to the lists of the flats of rank high that have them."""
    ends = flats_of_rank(order, high)
    return {flat: [end for end in ends if end & flat == flat] for flat in flats_of_rank(order, low)}


def _paired(ends):
    """The dict from upper flats to the lower ones led to them, and the list of lower flats that bar the way.

    ends leads each lower flat to the upper ones that have it. Once a lower flat finds no place, all upper flats
    that it could reach by moving others are taken, by one of the listed flats each: these are one more than they.
    """
    partners = {}
    for flat in ends:
        seen = {}
        if not _finds_place(ends, partners, seen, flat):
            return partners, [flat] + [partners[end] for end in seen]
    return partners, []


def _finds_place(ends, partners, seen, flat):
    """Whether flat is led to an upper flat that is not seen yet, others being moved if they are in the way."""
    for end in ends[flat]:
        if end not in seen:
            seen[end] = True
            if end not in partners or _finds_place(ends, partners, seen, partners[end]):
                partners[end] = flat
                return True
    return False

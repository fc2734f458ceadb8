"""The flats of a book from within, of all books: flats are masks, in the sequence of flats."""

from flatrooms.books import need_book
from flatrooms.errors import BadLot
from flatrooms.kinds import is_lot, is_number
from flatrooms.masks import closure_of, flat_masks, lot_of, rank_table


class FlatOrder:
    """The flats of a book: by rank, those of one rank as their lots ascend.

    ranks and lots lead each of them, in this sequence, to its rank and to its lot, masks leads lots to flats; table
    has the rank of each mask. top is the flat of all things, bottom that of rank 0.
    """

    def __init__(self, book):
        self.table = rank_table(book)
        found = sorted([(self.table[mask], lot_of(mask), mask) for mask in flat_masks(self.table)])
        self.size = book.size
        self.rank = book.rank
        self.ranks = {mask: rank for rank, _, mask in found}
        self.lots = {mask: lot for _, lot, mask in found}
        self.masks = {lot: mask for _, lot, mask in found}
        self.top = found[-1][2]
        self.bottom = found[0][2]


def order_of(book):
    """The flats of a book; raises for what is none."""
    need_book(book)
    return FlatOrder(book)


def flat_in(order, lot):
    """The mask of a flat; raises unless lot, any value, is one."""
    if not _is_flat(order, lot):
        raise BadLot("no flat of the book")
    return order.masks[lot]


def flats_of_rank(order, rank):
    """The list of the flats of this rank, ascending."""
    return [flat for flat in order.ranks if order.ranks[flat] == rank]


def joined(order, one, other):
    """The least flat that has both."""
    return closure_of(order.table, one | other)


def signs_over(flats, low):
    """The dict from those of flats that have the mask low to their signs over the first one of them.

    Each flat stands in flats behind all that lie in it.
    """
    known = {}
    for flat in flats:
        if flat & low == low:
            within = [known[other] for other in known if other & flat == other]
            known[flat] = -sum(within) if within else 1
    return known


def numbers_of(order, thing):
    """A new dict from masks to numbers, None unless thing, any value, is a dict from flats to numbers."""
    if not isinstance(thing, dict):
        return None
    if not all([_is_flat(order, lot) and is_number(thing[lot]) for lot in thing]):
        return None
    return {order.masks[lot]: thing[lot] for lot in thing}


def _is_flat(order, thing):
    return is_lot(thing, order.size) and thing in order.masks

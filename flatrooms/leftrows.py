"""Own rows and mirror rows, told by a thing left out."""

from flatrooms.errors import BadBook
from flatrooms.flatorders import order_of
from flatrooms.flats import above, below
from flatrooms.mirrors import mirror_row
from flatrooms.ownrows import own_row
from flatrooms.ranks import idle, least_bound, sure
from flatrooms.rows import add_product, row_of
from flatrooms.sides import drawn_in, left_out, need_thing


def half_number(book):
    """The number of own_row at half of rank - 1; 0 for an even rank."""
    row = own_row(book)
    at = (book.rank - 1) // 2
    if book.rank & 1 == 0 or at >= len(row):
        return 0
    return row[at]


def own_row_left(book, thing):
    """own_row of book, told by those of smaller books."""
    _need_leaving(book, thing)
    total = [0] * (book.rank + 1)
    add_product(total, own_row(left_out(book, thing)), (1,), 0)
    add_product(total, own_row(drawn_in(book, thing)), (-1,), 1)
    for flat, half, by in _halves(book, thing):
        add_product(total, own_row(below(book, flat)), (half,), by)
    return row_of(total)


def mirror_row_left(book, thing):
    """mirror_row of book, told by those of smaller books."""
    _need_leaving(book, thing)
    total = [0] * (book.rank + 1)
    add_product(total, mirror_row(left_out(book, thing)), (1,), 0)
    for flat, half, by in _halves(book, thing):
        add_product(total, mirror_row(below(book, flat)), (half,), by)
    return row_of(total)


def _need_leaving(book, thing):
    """Raises unless thing is one of book, not sure, and each two things are free together."""
    need_thing(book, thing)
    if idle(book):
        raise BadBook("idle")
    if any([len(lot) == 2 for lot in least_bound(book)]):
        raise BadBook("twins")
    if thing in sure(book):
        raise BadBook("sure")


def _halves(book, thing):
    """The list of triples of a flat, what half_number tells above it with thing, and half the ranks beyond it.

    They are the flats without thing that are flats with it, too, and beyond which the number of ranks is even.
    """
    order = order_of(book)
    bit = 1 << thing
    found = []
    for flat in order.ranks:
        ranks = order.rank - order.ranks[flat]
        if not flat & bit and flat | bit in order.ranks and ranks & 1 == 0:
            half = half_number(above(book, order.lots[flat | bit]))
            found.append((order.lots[flat], half, ranks // 2))
    return found

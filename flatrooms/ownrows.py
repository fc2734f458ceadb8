"""The own rows of flats: the one way to give each a short row such that all backwards add up."""

from flatrooms.flatorders import order_of
from flatrooms.rows import add_product, between_rows, row_of


def own_rows(book):
    """The ascending dict from flats to their own rows."""
    order = order_of(book)
    rows = own_within(order, between_rows(order), order.top)
    found = {order.lots[flat]: rows[flat] for flat in rows}
    return {lot: found[lot] for lot in sorted(found)}


def own_row(book):
    """The own row of the flat of rank 0."""
    order = order_of(book)
    return own_within(order, between_rows(order), order.top)[order.bottom]


def own_within(order, betweens, top):
    """The dict from all flats within top to their own rows in the book below top.

    betweens is what between_rows tells of all flats.
    """
    found = {top: (1,)}
    for low in [flat for flat in reversed(list(order.ranks)) if flat & top == flat and flat != top]:
        ranks = order.ranks[top] - order.ranks[low]
        total = [0] * (ranks + 1)
        for high in found:
            if high & low == low:
                add_product(total, betweens[(low, high)], found[high], 0)
        # The row of low backwards, less itself, is this total: its powers are below half of ranks, so that the
        # numbers beyond are those of the row backwards.
        found[low] = row_of(total[::-1][:(ranks + 1) // 2])
    return found

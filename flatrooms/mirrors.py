"""The own rows of all flats, added up by rank: a row that is the same backwards."""

from flatrooms.flatorders import order_of
from flatrooms.ownrows import own_within
from flatrooms.rows import add_product, between_rows, middle_of


def mirror_row(book):
    """The sum of the own rows of all flats, each so many powers higher as the flat has ranks."""
    order = order_of(book)
    rows = own_within(order, between_rows(order), order.top)
    total = [0] * (order.rank + 1)
    for flat in rows:
        add_product(total, rows[flat], (1,), order.ranks[flat])
    # The flat of all things has 1 at the last power.
    return tuple(total)


def bent_row(book):
    """The numbers g(k) for which mirror_row is the sum of all g(k) * t ** k * (1 + t) ** (rank - 2 * k)."""
    return middle_of(mirror_row(book))

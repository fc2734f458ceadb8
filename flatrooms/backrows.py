"""The rows that turn own rows back: with signs by ranks, the products of both add up to nothing."""

from flatrooms.flatorders import order_of
from flatrooms.ownrows import own_within
from flatrooms.rows import add_product, between_rows, row_of


def back_row(book):
    """The back row of a book."""
    order = order_of(book)
    betweens = between_rows(order)
    owns = {flat: own_within(order, betweens, flat) for flat in order.ranks}
    backs = {order.top: (1,)}
    for low in [flat for flat in reversed(list(order.ranks)) if flat != order.top]:
        total = [0] * (order.rank + 1)
        for high in backs:
            if high & low == low:
                # What the sum has at low itself is the row that is looked for: it is less all the others.
                sign = 1 if (order.ranks[high] - order.ranks[low]) & 1 else -1
                add_product(total, [sign * number for number in owns[high][low]], backs[high], 0)
        backs[low] = row_of(total)
    return backs[order.bottom]

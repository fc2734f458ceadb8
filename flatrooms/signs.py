"""The signs of the flats of a book, and the rows of their sums by ranks."""

from flatrooms.books import need_book
from flatrooms.errors import BadBook, BadNumber
from flatrooms.flatorders import signs_over
from flatrooms.masks import flat_masks, lot_of, rank_table
from flatrooms.ranks import idle


def signs(book):
    """The ascending dict from flats to their signs."""
    need_book(book)
    known = _mask_signs(rank_table(book))
    found = {lot_of(mask): known[mask] for mask in known}
    return {flat: found[flat] for flat in sorted(found)}


def sign_row(book):
    """The tuple that has at k the sum of the signs of the flats of rank k; all 0 with idle things."""
    need_book(book)
    row = [0] * (book.rank + 1)
    if idle(book):
        return tuple(row)
    ranks = rank_table(book)
    known = _mask_signs(ranks)
    for mask in known:
        row[ranks[mask]] += known[mask]
    return tuple(row)


def short_row(book):
    """The tuple that has at k, below the rank, the sum of sign_row up to k, without its sign."""
    need_book(book)
    if book.rank == 0:
        raise BadNumber("rank")
    if idle(book):
        raise BadBook("idle")
    row = sign_row(book)
    return tuple([abs(sum(row[:at + 1])) for at in range(book.rank)])


def _mask_signs(ranks):
    """The dict from the masks of the flats to their signs."""
    # A flat within another one has the lesser mask: it comes first, the one of rank 0 ahead of all.
    return signs_over(flat_masks(ranks), 0)

"""Flats, the lots that are their closures; the books below and above them, and their covers."""

from flatrooms.books import need_book
from flatrooms.errors import BadLot
from flatrooms.masks import closure_of, flat_masks, lot_of, mask_of, rank_table
from flatrooms.parts import book_beyond, book_within, things_beyond
from flatrooms.ranks import closure


def flats(book):
    """The list that has for each rank the ascending list of the flats of this rank."""
    need_book(book)
    ranks = rank_table(book)
    found = [[] for _ in range(book.rank + 1)]
    for mask in flat_masks(ranks):
        found[ranks[mask]].append(lot_of(mask))
    return [sorted(lots) for lots in found]


def below(book, flat):
    """The book of the things of flat."""
    need_flat(book, flat)
    return book_within(book, flat)


def above(book, flat):
    """The book of the things outside of flat, free if they are so together with a base of flat."""
    need_flat(book, flat)
    return book_beyond(book, flat)


def covers(book, flat):
    """The ascending list of the flats of one rank more that have flat."""
    need_flat(book, flat)
    ranks = rank_table(book)
    mask = mask_of(flat)
    return sorted({lot_of(closure_of(ranks, mask | 1 << thing)) for thing in things_beyond(book, flat)})


def need_flat(book, flat):
    """Raises unless book is a book and flat one of its flats."""
    # closure refuses what is no book and what is no lot.
    if closure(book, flat) != flat:
        raise BadLot("no flat of the book")

"""How many free lots there are of each length, and how far their squares are above their neighbours."""

from math import comb

from flatrooms.books import need_book
from flatrooms.masks import bits_of, free_table


def free_row(book):
    """The tuple of how many free lots have so many things, up to rank."""
    need_book(book)
    free = free_table(book)
    row = [0] * (book.rank + 1)
    for mask in range(len(free)):
        if free[mask]:
            row[len(bits_of(mask))] += 1
    return tuple(row)


def free_gaps(book):
    """What each inner number of free_row, squared, is more than its neighbours, each as one of all lots so long."""
    row = free_row(book)
    gaps = []
    for many in range(1, book.rank):
        beside = comb(book.size, many - 1) * comb(book.size, many + 1)
        middle = comb(book.size, many)
        gaps.append(row[many] * row[many] * beside - row[many - 1] * row[many + 1] * middle * middle)
    return tuple(gaps)

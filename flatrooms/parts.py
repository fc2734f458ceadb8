"""The book of a lot of things, and the book of the things beyond a lot; both numbered anew from 0."""

from flatrooms.books import Book


def book_within(book, lot):
    """The book of the things of lot, free as in book."""
    return _numbered(lot, [tuple([thing for thing in base if thing in lot]) for base in book.bases])


def book_beyond(book, lot):
    """The book of the things outside of lot, free if they are so together with a base of lot."""
    others = things_beyond(book, lot)
    inner = [len([thing for thing in base if thing in lot]) for base in book.bases]
    bases = [base for base, many in zip(book.bases, inner) if many == max(inner)]
    return _numbered(others, [tuple([thing for thing in base if thing in others]) for base in bases])


def things_beyond(book, lot):
    return tuple([thing for thing in range(book.size) if thing not in lot])


def _numbered(things, lots):
    """The book of things whose bases are the longest of lots, with the numbers of things from 0 on."""
    number = {thing: at for at, thing in enumerate(things)}
    most = max([len(lot) for lot in lots])
    return Book(len(things), [tuple([number[thing] for thing in lot]) for lot in lots if len(lot) == most])

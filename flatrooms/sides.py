"""Books of books: turned about, left out, drawn in, cut short, side by side, made freer."""

from flatrooms.books import MOST, Book, need_book
from flatrooms.errors import BadNumber, BadThing, TooMany
from flatrooms.kinds import is_number_within
from flatrooms.parts import book_beyond, book_within, things_beyond
from flatrooms.ranks import closure, free_lots, least_bound, need_lot


def turned(book):
    """The book whose bases are what the bases leave."""
    need_book(book)
    return Book(book.size, [things_beyond(book, base) for base in book.bases])


def left_out(book, thing):
    """The book of the other things: free are the free lots without thing."""
    need_thing(book, thing)
    return book_within(book, things_beyond(book, (thing,)))


def drawn_in(book, thing):
    """The book of the other things: free are the lots that are free together with thing."""
    need_thing(book, thing)
    return book_beyond(book, (thing,))


def cut_short(book):
    """The book whose free lots are the free lots with less than rank things."""
    need_book(book)
    if book.rank == 0:
        raise BadNumber("rank")
    return Book(book.size, [lot for lot in free_lots(book) if len(lot) == book.rank - 1])


def side_by_side(one, other):
    """The book of the things of one, and those of other behind them."""
    need_book(one)
    need_book(other)
    if one.size + other.size > MOST:
        raise TooMany(MOST)
    behind = [tuple([thing + one.size for thing in base]) for base in other.bases]
    return Book(one.size + other.size, [base + more for base in one.bases for more in behind])


def made_freer(book, lot):
    """The book of which lot, least bound and a closure, is a base more."""
    need_lot(book, lot)
    if len(lot) != book.rank or lot not in least_bound(book) or closure(book, lot) != lot:
        raise BadNumber("lot")
    return Book(book.size, [*book.bases, lot])


def need_thing(book, thing):
    """Raises unless book is a book and thing one of its things."""
    need_book(book)
    if not is_number_within(thing, 0, book.size - 1):
        raise BadThing("no thing of the book")

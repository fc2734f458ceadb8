"""Books that differ by the names of their things alone."""

from itertools import permutations

from flatrooms.books import Book, are_exchanged, need_book
from flatrooms.errors import BadLot, BadNumber, TooMany
from flatrooms.kinds import is_number_within, is_order
from flatrooms.masks import bits_of, lots_of, mask_of, rank_table

MOST_PLAIN = 6
MOST_ALL = 5


def renamed(book, order):
    """The book in which thing k is called order[k]."""
    need_order(book, order)
    return Book(book.size, _moved(book.bases, order))


def alike(one, other):
    """Whether renamed leads from one to other for some order."""
    need_book(one)
    need_book(other)
    if (one.size, one.rank, len(one.bases)) != (other.size, other.rank, len(other.bases)):
        return False
    return _leads(rank_table(one), rank_table(other), [0])


def plain_book(book):
    """The book alike to book whose bases are least."""
    need_book(book)
    if book.size > MOST_PLAIN:
        raise TooMany(MOST_PLAIN)
    return Book(book.size, _least_bases(book.size, book.bases))


def all_books(size, rank):
    """The list of the plain books of this size and rank, ascending by their bases."""
    if not is_number_within(size, 0, MOST_ALL):
        raise BadNumber("size")
    if not is_number_within(rank, 0, size):
        raise BadNumber("rank")
    lots = lots_of(size, rank)
    found = []
    # The least bases begin with the first lot of all: some order leads any base to it.
    for choice in range(1 << (len(lots) - 1)):
        bases = [lots[0], *[lot for at, lot in enumerate(lots[1:]) if choice >> at & 1]]
        if _is_plain(size, bases):
            found.append(bases)
    return [Book(size, plain) for plain in sorted(found)]


def need_order(book, order):
    """Raises unless book is a book and order a list of all its things."""
    need_book(book)
    if not is_order(order, book.size):
        raise BadLot("no list of all things in some sequence")


def _moved(bases, order):
    """The ascending list of the bases with order[k] for thing k."""
    return sorted([tuple(sorted([order[thing] for thing in base])) for base in bases])


def _least_bases(size, bases):
    least = sorted(bases)
    for order in permutations(range(size)):
        least = min(least, _moved(bases, order))
    return least


def _is_plain(size, bases):
    """Whether bases, ascending, are those of a plain book."""
    return are_exchanged(size, [mask_of(base) for base in bases]) and _least_bases(size, bases) == bases


def _leads(ones, others, images):
    """Whether the first things, whose lots lead to images, and the further ones can keep their ranks.

    ones and others are rank tables; images has the mask to which each mask of the first things leads.
    """
    if len(images) == len(ones):
        return True
    # Each mask with the next thing stands in ones as far behind its others as images is long.
    wanted = ones[len(images):2 * len(images)]
    for bit in bits_of(len(ones) - 1):
        further = [image | bit for image in images]
        if not images[-1] & bit and [others[image] for image in further] == wanted:
            if _leads(ones, others, images + further):
                return True
    return False

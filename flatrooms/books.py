"""Books: some things, and the bases, the greatest lots of them that are free."""

from flatrooms.errors import BadBook
from flatrooms.kinds import is_list, is_lot, is_number_within
from flatrooms.masks import bits_of, mask_of

MOST = 8


class Book:
    """The things from 0 to size - 1, with their bases."""

    def __init__(self, size, bases):
        need_size(size)
        if not _are_lots_of_one_length(size, bases):
            raise BadBook("bases")
        if not are_exchanged(size, [mask_of(base) for base in bases]):
            raise BadBook("exchange")
        self.size = size
        self.bases = tuple(sorted(set(bases)))
        self.rank = len(self.bases[0])

    def __eq__(self, other):
        return isinstance(other, Book) and self.size == other.size and self.bases == other.bases

    def __repr__(self):
        return f"Book({self.size}, {self.bases})"


def need_size(size):
    if not is_number_within(size, 0, MOST):
        raise BadBook("size")


def need_book(book):
    if not isinstance(book, Book):
        raise BadBook(None)


def _are_lots_of_one_length(size, bases):
    if not is_list(bases) or len(bases) == 0:
        return False
    if not all([is_lot(base, size) for base in bases]):
        return False
    return all([len(base) == len(bases[0]) for base in bases])


def are_exchanged(size, masks):
    """Whether each thing of a base can be exchanged for one of each base that has it not."""
    known = {mask: True for mask in masks}
    for mask in known:
        for bit in bits_of(mask):
            swaps = _swaps(size, known, mask, bit)
            for other in known:
                if not other & bit and not other & swaps:
                    return False
    return True


def _swaps(size, known, mask, bit):
    """The mask of the things outside of mask that make a base with what mask is without bit."""
    swaps = 0
    for other in bits_of((1 << size) - 1):
        if not mask & other and (mask ^ bit | other) in known:
            swaps |= other
    return swaps

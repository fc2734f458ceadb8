"""Ranks, closures, free lots and bound lots of a book; and the book of its least bound lots."""

from flatrooms.books import Book, need_book, need_size
from flatrooms.errors import BadBook, BadLot
from flatrooms.kinds import is_list, is_lot
from flatrooms.masks import bits_of, closure_of, free_table, lot_of, mask_of, rank_table


def rank(book, lot):
    """The greatest number of things of lot in one base."""
    need_lot(book, lot)
    return max([len([thing for thing in lot if thing in base]) for base in book.bases])


def closure(book, lot):
    """The lot of all things that do not make the rank of lot greater."""
    need_lot(book, lot)
    return lot_of(closure_of(rank_table(book), mask_of(lot)))


def free_lots(book):
    """The ascending list of all free lots."""
    need_book(book)
    free = free_table(book)
    return sorted([lot_of(mask) for mask in range(len(free)) if free[mask]])


def least_bound(book):
    """The ascending list of the bound lots of which each smaller part is free."""
    need_book(book)
    free = free_table(book)
    least = []
    for mask in range(len(free)):
        if not free[mask] and all([free[mask ^ bit] for bit in bits_of(mask)]):
            least.append(lot_of(mask))
    return sorted(least)


def idle(book):
    """The lot of the things that are in no base."""
    need_book(book)
    return tuple([thing for thing in range(book.size) if _uses(book, thing) == 0])


def sure(book):
    """The lot of the things that are in each base."""
    need_book(book)
    return tuple([thing for thing in range(book.size) if _uses(book, thing) == len(book.bases)])


def book_of_bound(size, lots):
    """The book whose least bound lots are told."""
    need_size(size)
    if not _are_nonempty_lots(size, lots):
        raise BadBook("bound")
    masks = sorted({mask_of(lot) for lot in lots})
    bound = _bound_table(size, masks)
    if not _are_apart(masks) or not _are_eliminated(masks, bound):
        raise BadBook("bound")
    free = [lot_of(mask) for mask in range(len(bound)) if not bound[mask]]
    most = max([len(lot) for lot in free])
    return Book(size, [lot for lot in free if len(lot) == most])


def need_lot(book, lot):
    """Raises unless book is a book and lot a lot of its things."""
    need_book(book)
    if not is_lot(lot, book.size):
        raise BadLot("no lot of the things of the book")


def _uses(book, thing):
    return len([base for base in book.bases if thing in base])


def _are_nonempty_lots(size, lots):
    return is_list(lots) and all([is_lot(lot, size) and len(lot) > 0 for lot in lots])


def _bound_table(size, masks):
    """The list that tells of each mask whether one of masks lies in it."""
    bound = [False] * (1 << size)
    for mask in masks:
        bound[mask] = True
    for mask in range(len(bound)):
        if not bound[mask]:
            bound[mask] = any([bound[mask ^ bit] for bit in bits_of(mask)])
    return bound


def _are_apart(masks):
    """Whether no mask lies in a different one."""
    for one in masks:
        if len([other for other in masks if one & other == one]) > 1:
            return False
    return True


def _are_eliminated(masks, bound):
    """Whether both of any two masks, without one thing that they share, are still bound."""
    for one in masks:
        for other in masks:
            for bit in bits_of(one & other):
                if one != other and not bound[(one | other) ^ bit]:
                    return False
    return True

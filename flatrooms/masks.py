"""Lots as bit masks: thing k is the bit 1 << k, so that a lot lies in another one if its bits do."""

from itertools import combinations


def lots_of(size, length):
    """The ascending list of all lots of so many things out of size."""
    return list(combinations(range(size), length))


def mask_of(lot):
    mask = 0
    for thing in lot:
        mask |= 1 << thing
    return mask


def mask_among(things, lot):
    """The mask of the things that are called by their indexes, in lot."""
    return mask_of([things[at] for at in lot])


def lot_of(mask):
    return tuple([thing for thing in range(mask.bit_length()) if mask >> thing & 1])


def bits_of(mask):
    """The masks of the single things of a mask."""
    return [1 << thing for thing in range(mask.bit_length()) if mask >> thing & 1]


def free_table(book):
    """The list that tells of each mask whether its lot is free."""
    free = [False] * (1 << book.size)
    for base in book.bases:
        free[mask_of(base)] = True
    for mask in range(len(free) - 1, 0, -1):
        if free[mask]:
            for bit in bits_of(mask):
                free[mask ^ bit] = True
    return free


def rank_table(book):
    """The list that has the rank of each mask."""
    free = free_table(book)
    ranks = [0] * len(free)
    for mask in range(1, len(free)):
        bits = bits_of(mask)
        if free[mask]:
            ranks[mask] = len(bits)
        else:
            ranks[mask] = max([ranks[mask ^ bit] for bit in bits])
    return ranks


def closure_of(ranks, mask):
    """The mask of all things that do not make the rank of mask greater."""
    closed = mask
    for bit in bits_of(len(ranks) - 1):
        if ranks[mask | bit] == ranks[mask]:
            closed |= bit
    return closed


def flat_masks(ranks):
    """The ascending list of the masks that are their closures."""
    return [mask for mask in range(len(ranks)) if closure_of(ranks, mask) == mask]

"""The inner and outer things of bases, by some order of the things."""

from flatrooms.alike import need_order
from flatrooms.masks import mask_of


def sweep(book, order):
    """The ascending dict from pairs (inner, outer) to the number of bases with so many such things."""
    need_order(book, order)
    bits = [1 << thing for thing in order]
    bases = {mask_of(base): True for base in book.bases}
    found = {}
    for mask in bases:
        firsts = [bit for bit in bits if _is_first(bases, mask, bit, bits)]
        inner = len([bit for bit in firsts if mask & bit])
        pair = (inner, len(firsts) - inner)
        found[pair] = found.get(pair, 0) + 1
    return {pair: found[pair] for pair in sorted(found)}


def _is_first(bases, mask, bit, bits):
    """Whether bit is the first thing, in order, of those that leave a base when exchanged for it.

    A thing of the base mask is exchanged for one outside, a thing outside for one of the base: either
    way both bits turn over. The thing itself, turned over twice, leaves the base that there is.
    """
    return [other for other in bits if mask ^ bit ^ other in bases][0] == bit

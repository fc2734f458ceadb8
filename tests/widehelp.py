"""The wider room straight from its rules, and weights that rise."""

from random import Random

from tests.roomhelp import plain_product
from tests.samples import parts_of, plain_flats
from tests.weighthelp import both_weights, plain_bends, thing_weights


def plain_letters(book):
    """All flats of rank 1 and more."""
    return [flat for flat in plain_flats(book) if flat]


def plain_thing(book, thing):
    """The letter of a thing, not tidied."""
    return {((flat, 1),): -1 for flat in plain_letters(book) if thing in flat}


def plain_bare(book):
    return {((flat, 1),): -1 for flat in plain_letters(book)}


def wide_nothings(book):
    """Sums of degree 2 that the rules make nothing, but those of towers that are none."""
    found = []
    for thing in range(book.size):
        one = plain_thing(book, thing)
        found.append(plain_product(one, plain_bare(book)))
        found.extend(plain_product(one, {((flat, 1),): 1}) for flat in plain_letters(book) if thing not in flat)
    return found


def rising_weights(size, seed):
    """Weights that rise, taken by chance, always the same for a seed."""
    chance = Random(seed)
    steps = sorted(chance.sample(range(1, 4 * size + 4), size), reverse=True)
    found = {lot: sum(steps[:len(lot)]) for lot in parts_of(range(size))}
    for _ in range(chance.randint(0, 3)):
        some = set(chance.sample(range(size), chance.randint(0, size)))
        most, times = chance.randint(0, size), chance.randint(1, 3)
        found = {lot: found[lot] + times * min(len(some & set(lot)), most) for lot in found}
    return both_weights(found, thing_weights([chance.choice([0, 0, 1, 5]) for _ in range(size)]))


def even_rising(size, times=1):
    """The sums of size, size - 1, .., for lots of each length."""
    return {lot: times * sum(size - k for k in range(len(lot))) for lot in parts_of(range(size))}


def plain_rising(size, weights):
    """Whether weights, a dict from all lots to numbers, rise; straight from the definition."""
    if weights[()] != 0 or not plain_bends(weights, 1):
        return False
    return all(weights[tuple(sorted((*lot, thing)))] > weights[lot]
               for lot in weights for thing in range(size) if thing not in lot)

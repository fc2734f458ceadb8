"""Weights to test with: those that bend, those that bend weakly, and those that do as they like."""

from itertools import combinations
from random import Random

from tests.samples import parts_of, plain_rank

GREAT = 10 ** 20

# No weights for two things.
NO_WEIGHTS = [{}, {(): 0}, {(): 0, (0,): 1, (1,): 1}, {(): 1, (0,): 1, (1,): 1, (0, 1): 1},
              {(): False, (0,): 1, (1,): 1, (0, 1): 1}, {(): 0, (0,): True, (1,): 1, (0, 1): 1},
              {(): 0, (0,): 1, (1,): 1, (0, 1): None}, {(): 0, (0,): 1, (1,): 1, (0, 1): 1.0},
              {(): 0, (0,): 1, (1,): 1, (0, 1): "1"}, {(): 0, (0,): 1, (1,): 1, (1, 0): 1},
              {(): 0, (0,): 1, (1,): 1, (0, 1): 1, (2,): 0}, {(): 0, (0,): 1, (1,): 1, (0, 1): 1, None: 0},
              {(): 0, (False,): 1, (1,): 1, (0, 1): 1}, {(): 0, (0,): 1, (True,): 1, (0, 1): 1},
              {(): 0, (0,): 1, (1,): 1, (0, 1.0): 1}, {(): 0, 0: 1, 1: 1, (0, 1): 1},
              {(): 0, (0,): 1, (1,): 1, "01": 1}, {(): 0, (0,): 1, (2,): 1, (0, 2): 1},
              {(): 0, (0,): 1, (-1,): 1, (-1, 0): 1}, {(): None, (0,): 1, (1,): 1, (0, 1): 1},
              {None: 0, (0,): 1, (1,): 1, (0, 1): 1}, {frozenset(): 0, (0,): 1, (1,): 1, (0, 1): 1}]


def lots_of(size):
    return parts_of(range(size))


def same_weights(size, number):
    """The same number for all lots but ()."""
    return {lot: number if lot else 0 for lot in lots_of(size)}


def even_weights(size, times=1):
    return {lot: times * len(lot) * (size - len(lot)) for lot in lots_of(size)}


def thing_weights(numbers):
    """Each lot weighs what its things do."""
    return {lot: sum(numbers[thing] for thing in lot) for lot in lots_of(len(numbers))}


def outer_weights(size):
    return {lot: 1 if 0 in lot and len(lot) < size else 0 for lot in lots_of(size)}


def inner_weights(size):
    return {lot: 1 if lot and 0 not in lot else 0 for lot in lots_of(size)}


def rank_weights(book):
    return {lot: plain_rank(book, lot) for lot in lots_of(book.size)}


def both_weights(one, other, times=1):
    return {lot: one[lot] + times * other[lot] for lot in one}


def plain_bends(weights, amount):
    """Straight from the definition."""
    for one, other in combinations(weights, 2):
        if set(one) <= set(other) or set(other) <= set(one):
            continue
        all_of, shared = set(one) | set(other), set(one) & set(other)
        if weights[one] + weights[other] < weights[tuple(sorted(all_of))] + weights[tuple(sorted(shared))] + amount:
            return False
    return True


def weak_weights(size, seed):
    """Weights that bend weakly, taken by chance, always the same for a seed."""
    chance = Random(seed)
    found = same_weights(size, 0)
    for _ in range(chance.randint(1, 4)):
        some = set(chance.sample(range(size), chance.randint(0, size)))
        most = chance.randint(0, size)
        times = chance.randint(0, 3)
        found = {lot: found[lot] + times * min(len(some & set(lot)), most) for lot in found}
    return both_weights(found, thing_weights([chance.randint(-4, 4) for _ in range(size)]))


def bent_weights(size, seed):
    """Weights that bend, taken by chance, always the same for a seed."""
    chance = Random(seed)
    steps = sorted((chance.randint(-9, 9) - 2 * k for k in range(size)), reverse=True)
    steps = [step - k for k, step in enumerate(steps)]
    by_length = {lot: sum(steps[:len(lot)]) for lot in lots_of(size)}
    return both_weights(by_length, weak_weights(size, seed))


def chance_weights(size, seed):
    """Weights that need not bend."""
    chance = Random(seed)
    return {lot: chance.choice([-7, -2, -1, 0, 0, 1, 3, GREAT]) if lot else 0 for lot in lots_of(size)}

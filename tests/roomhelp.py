"""Towers straight from the definitions, to test the room with."""

from math import comb
from random import Random

from tests.samples import plain_flats, plain_rank

# No towers of any book of three things of which each is a flat.
NO_TOWERS = [None, 0, "", "a", (0,), ((0,),), (((0,), 0),), (((0,), -1),), (((0,), True),), (((0,), "1"),),
             (((0,), 1.0),), (((0,), None),), (((True,), 1),), (((), 1),), (((0,), 1), ((0,), 1)),
             (((0, 1, 2), 1), ((0,), 1)), (((0,), 1), ((1,), 1)), (((1, 0), 1),), (((0, 0), 1),), (((3,), 1),),
             (((-1,), 1),), (((0,), 1, 1),), ((0, 1),), (("0", 1),), (((0,), 1), None), ((((0,),), 1),),
             frozenset(), (frozenset({0}), 1), ((frozenset({0}), 1),)]


def degree_of(tower):
    return sum(times for _, times in tower)


def everything(book):
    return tuple(range(book.size))


def letter(*things, times=1):
    return {((things, times),): 1}


def chains_of(book):
    """All tuples of flats with letters, each within the next one."""
    flats = [flat for flat in plain_flats(book) if flat and plain_rank(book, flat)]
    found = [()]
    for chain in found:
        found.extend((*chain, flat) for flat in flats if not chain or set(chain[-1]) < set(flat))
    return found


def times_of(length, degree):
    """All tuples of so many numbers from 1 on that add up to degree."""
    if length == 0:
        return [()] if degree == 0 else []
    return [(first, *rest) for first in range(1, degree + 1) for rest in times_of(length - 1, degree - first)]


def all_towers(book, degree):
    """All towers of this degree, tidy or not."""
    return [tuple(zip(chain, times)) for chain in chains_of(book) for times in times_of(len(chain), degree)]


def chance_tower(flats, degree, chance):
    """A tower of this degree, letter by letter, out of all flats with letters, ascending."""
    found = {(): 1}
    for _ in range(degree):
        fitting = [flat for flat in flats if plain_product(found, letter(*flat))]
        found = plain_product(found, letter(*chance.choice(fitting)))
    return list(found)[0]


def is_tidy(book, tower):
    behind = 0
    for flat, times in tower:
        rank = plain_rank(book, flat)
        if times >= rank - behind:
            return False
        behind = rank
    return True


def plain_product(one, other):
    """The product of two sums of towers as it comes, not tidied."""
    total = {}
    for first, number in one.items():
        for second, many in other.items():
            times = dict(first)
            for flat, more in second:
                times[flat] = times.get(flat, 0) + more
            chain = sorted(times, key=len)
            if all(set(low) < set(high) for low, high in zip(chain, chain[1:])):
                tower = tuple((flat, times[flat]) for flat in chain)
                total[tower] = total.get(tower, 0) + number * many
    return total


def with_thing(book, thing):
    """The sum of the letters of all flats that have thing: it is nothing in the room."""
    return {((flat, 1),): 1 for flat in plain_flats(book) if thing in flat}


def full_towers(book):
    """All towers with one flat of each rank from 1 to rank - 1, each once."""
    return [tower for tower in all_towers(book, book.rank - 1)
            if [plain_rank(book, flat) for flat, _ in tower] == list(range(1, book.rank))]


def prime_rank(rows, prime=1000003):
    """How many of rows are free of one another modulo the prime; over fractions there are as many at least."""
    left = [[number % prime for number in row] for row in rows]
    rank = 0
    while left:
        row = left.pop()
        at = next((k for k, number in enumerate(row) if number), None)
        if at is not None:
            rank += 1
            turn = pow(row[at], -1, prime)
            row = [number * turn % prime for number in row]
            left = [[(a - other[at] * b) % prime for a, b in zip(other, row)] if other[at] else other
                    for other in left]
    return rank


def rows_of(sums, towers):
    """The numbers of sums at towers."""
    return [[one.get(tower, 0) for tower in towers] for one in sums]


def chance_sum(towers, seed, numbers=(-3, -1, 0, 1, 2, 10 ** 20)):
    """A sum of some of towers, taken by chance, always the same for a seed."""
    chance = Random(seed)
    return {tower: chance.choice(numbers) for tower in chance.sample(towers, min(len(towers), 6))}


def choose(many, few):
    return comb(many, few) if 0 <= few <= many else 0

"""Flats by rank, their signs over one another, and rows of numbers, straight from the definitions."""

from random import Random

from flatrooms.alike import renamed
from flatrooms.books import Book
from flatrooms.makers import even_book, table_book, web_book
from flatrooms.sides import side_by_side
from tests.samples import CUBE, ODDS, many_books, orders_of, plain_closure, plain_flats, plain_rank, small_books
from tests.weighthelp import GREAT

KNOWN = {}
TWINS = table_book(3, [[1, 0, 0], [2, 0, 0], [0, 1, 0], [0, 2, 0], [0, 0, 1], [1, 1, 0]])

# No flats of even_book(2, 3): no lots, lots of other things, lots that are no flats.
NO_FLATS = ODDS + [0, [], [0], (1, 0), (0, 0), (3,), (-1,), (0, 1), (1, 2), (0.0,), ((0,),), (GREAT,), "0", (False,),
                   (0, 1, True)]


def order_books():
    """Books of every kind, all small ones among them; also side by side, renamed, and with things bound two by two."""
    found = many_books() + small_books(5)
    found += [TWINS, renamed(TWINS, orders_of(TWINS, 3)[2]), side_by_side(TWINS, even_book(0, 1)),
              side_by_side(even_book(1, 3), even_book(2, 4)), side_by_side(web_book(2, [(0, 1), (1, 1)]), TWINS),
              side_by_side(table_book(2, CUBE[:5]), even_book(1, 2))]
    return found


def hashable(book):
    return book.size, book.bases


def sequence(book):
    """The dict from all flats, in the sequence of flats, to their ranks; kept for each book."""
    if hashable(book) not in KNOWN:
        ranks = {flat: plain_rank(book, flat) for flat in plain_flats(book)}
        KNOWN[hashable(book)] = dict(sorted(ranks.items(), key=lambda pair: (pair[1], pair[0])))
    return KNOWN[hashable(book)]


def lowest(book):
    return next(iter(sequence(book)))


def highest(book):
    return tuple(range(book.size))


def of_rank(book, rank):
    return [flat for flat, its in sequence(book).items() if its == rank]


def within(one, other):
    return set(one) <= set(other)


def plain_join(book, one, other):
    return plain_closure(book, set(one) | set(other))


def plain_signs_over(book, low):
    """The dict from the flats that have low to their signs over it."""
    found = {}
    for flat in sequence(book):
        if within(low, flat):
            found[flat] = 1 if flat == low else -sum(found[other] for other in found if within(other, flat))
    return found


def plain_between(book, low, high):
    """The row between two flats, by powers, zeros at the end left out."""
    ranks = sequence(book)
    found = {}
    for flat, sign in plain_signs_over(book, low).items():
        if within(flat, high):
            at = ranks[high] - ranks[flat]
            found[at] = found.get(at, 0) + sign
    return trimmed([found.get(at, 0) for at in range(book.rank + 1)])


def trimmed(numbers):
    numbers = list(numbers)
    while numbers and numbers[-1] == 0:
        numbers.pop()
    return tuple(numbers)


def plus(one, other, times=1):
    length = max(len(one), len(other))
    pairs = zip([*one, *[0] * (length - len(one))], [*other, *[0] * (length - len(other))])
    return trimmed(a + times * b for a, b in pairs)


def times_row(one, other):
    found = [0] * (len(one) + len(other))
    for i, a in enumerate(one):
        for k, b in enumerate(other):
            found[i + k] += a * b
    return trimmed(found)


def raised(row, by):
    """A row, so many powers higher."""
    return (0,) * by + tuple(row) if row else ()


def backwards(row, d):
    return trimmed(([*row] + [0] * (d + 1 - len(row)))[::-1])


def flat_numbers(book, seed, numbers=(-3, -1, 0, 1, 2, GREAT)):
    """A dict from all flats to numbers taken by chance, always the same for a seed."""
    chance = Random(seed)
    return {flat: chance.choice(numbers) for flat in sequence(book)}


def some_flats(book, seed, most=5):
    """A sum of some flats, taken by chance, always the same for a seed."""
    chance = Random(seed)
    numbers = flat_numbers(book, seed + 1)
    return {flat: numbers[flat] for flat in chance.sample(list(numbers), chance.randint(0, min(len(numbers), most)))}


def no_sums(book):
    """What is no dict from flats of book, of which all numbers from 0 to 2 are things, to numbers."""
    wrong = [thing for thing in ODDS if thing != {}] + [0, (), [], [{}]]
    wrong += [{flat: 1} for flat in NO_FLATS if flat.__hash__ and flat not in sequence(book)]
    return wrong + [{(0,): number} for number in (True, False, None, 1.0, "1", (1,))] + [{lowest(book): 1, None: 1}]


def empty_book():
    return Book(0, [()])

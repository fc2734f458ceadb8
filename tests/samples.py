"""Books to test with, and plain ways to tell what the package tells, straight from the definitions."""

from itertools import chain, combinations, permutations
from random import Random

from flatrooms.alike import all_books, renamed
from flatrooms.books import Book
from flatrooms.makers import even_book, table_book, web_book
from flatrooms.ranks import idle, least_bound, closure
from flatrooms.sides import made_freer, side_by_side

FANO = [[1, 0, 0], [0, 1, 0], [0, 0, 1], [1, 1, 0], [1, 0, 1], [0, 1, 1], [1, 1, 1]]
CUBE = [[1, 0, 0, 0], [0, 1, 0, 0], [0, 0, 1, 0], [0, 0, 0, 1],
        [0, 1, 1, 1], [1, 0, 1, 1], [1, 1, 0, 1], [1, 1, 1, 0]]

# Values of all kinds, none of which is a number, a list of numbers, a book, or a sum.
ODDS = [None, True, False, "", "a", "0", 1.0, b"a", object(), {1: 2}, {"a": 1}, {0, 1}, frozenset(),
        ["a"], [None], [[[]]], (None,), ("a",), (True,), [True], (((),),), [{}], len]


def parts_of(things):
    """All lots within some things."""
    things = sorted(things)
    return list(chain.from_iterable(combinations(things, many) for many in range(len(things) + 1)))


def plain_rank(book, things):
    return max(len(set(things) & set(base)) for base in book.bases)


def plain_closure(book, things):
    return tuple(x for x in range(book.size)
                 if plain_rank(book, set(things) | {x}) == plain_rank(book, things))


def plain_flats(book):
    """All flats, straight from the definition, ascending."""
    return sorted(lot for lot in parts_of(range(book.size)) if plain_closure(book, lot) == lot)


def relaxable(book):
    """The lots that made_freer takes."""
    return [lot for lot in least_bound(book) if len(lot) == book.rank and closure(book, lot) == lot]


def orders_of(book, many, seed=5):
    """Some orders of the things of a book, the plain one among them; all if there are few."""
    things = list(range(book.size))
    if book.size <= 3:
        return [list(order) for order in permutations(things)]
    chance = Random(seed)
    found = [things, things[::-1]]
    while len(found) < many:
        found.append(chance.sample(things, len(things)))
    return found[:many]


def chance_tables(seed, sizes, many):
    """Books out of tables whose numbers are taken by chance, always the same for a seed."""
    chance = Random(seed)
    found = []
    for size in sizes:
        for _ in range(many):
            prime = chance.choice([2, 3, 5, 7, 11, 13])
            width = chance.randint(1, 4)
            rows = [[chance.randint(-3, 20) for _ in range(width)] for _ in range(size)]
            found.append(table_book(prime, rows))
    return found


def chance_webs(seed, sizes, many):
    chance = Random(seed)
    found = []
    for size in sizes:
        for _ in range(many):
            places = chance.randint(1, 5)
            ties = [(chance.randrange(places), chance.randrange(places)) for _ in range(size)]
            found.append(web_book(places, ties))
    return found


def freer_books():
    """Books that no table tells, or few: some lots of others made free."""
    fano = table_book(2, FANO)
    found = [made_freer(fano, relaxable(fano)[0])]
    found.append(made_freer(found[0], relaxable(found[0])[3]))
    five = web_book(4, [(0, 1), (1, 2), (0, 2), (2, 3), (0, 3)])
    found.append(made_freer(five, relaxable(five)[0]))
    six = web_book(4, [(0, 1), (0, 2), (0, 3), (1, 2), (1, 3), (2, 3)])
    found.extend(made_freer(six, lot) for lot in relaxable(six)[:2])
    return found


def small_books(most=4):
    """Each book of at most so many things, up to names."""
    return [book for size in range(most + 1) for rank in range(size + 1) for book in all_books(size, rank)]


def many_books():
    """Books of every kind: of rank 0, of size 0, with idle and sure things, of up to 8 things."""
    found = small_books()
    found += [even_book(rank, size) for size in (5, 6, 7) for rank in range(size + 1)]
    found += [even_book(0, 8), even_book(2, 8), even_book(4, 8), even_book(8, 8)]
    found += [table_book(2, FANO), table_book(3, FANO), table_book(2, CUBE)]
    found += chance_tables(1, (5, 6, 7), 5)
    found += chance_webs(2, (5, 6, 7, 8), 4)
    found += freer_books()
    found += [side_by_side(even_book(1, 2), even_book(2, 3)), side_by_side(even_book(0, 1), even_book(3, 5)),
              side_by_side(even_book(2, 2), even_book(2, 4))]
    found += [renamed(book, orders_of(book, 3)[2]) for book in freer_books()]
    return found


def room_books(most=6):
    """Books that have a room, of at most so many things."""
    return [book for book in many_books() if book.size <= most and book.rank > 0 and not idle(book)]


def book_of(size, *bases):
    return Book(size, list(bases))

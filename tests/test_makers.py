"""Point 12 (and the primes of point 4): books out of numbers, tables and webs."""

import copy
import unittest
from itertools import combinations, product
from random import Random

from flatrooms.books import Book
from flatrooms.errors import BadNumber, BadPrime, BadTable
from flatrooms.makers import even_book, table_book, web_book
from flatrooms.ranks import free_lots, idle
from tests.samples import FANO, ODDS, parts_of


def is_free(prime, rows):
    """Whether no times of rows, not all 0, add up to 0 modulo the prime."""
    for times in product(range(prime), repeat=len(rows)):
        if any(times) and not any(sum(many * number for many, number in zip(times, column)) % prime
                                  for column in zip(*rows)):
            return False
    return True


def makes_no_round(places, ties):
    """Whether ties are as many as they lead to new places, piece by piece."""
    pieces = {place: {place} for place in range(places)}
    for start, end in ties:
        if end in pieces[start]:
            return False
        joined = pieces[start] | pieces[end]
        for place in joined:
            pieces[place] = joined
    return True


class Even(unittest.TestCase):
    def test_all_of_them(self):
        for size in range(9):
            for rank in range(size + 1):
                book = even_book(rank, size)
                self.assertEqual(book.bases, tuple(combinations(range(size), rank)))
                self.assertEqual((book.size, book.rank), (size, rank))
        self.assertEqual(even_book(size=3, rank=2), Book(3, [(0, 1), (0, 2), (1, 2)]))

    def test_wrong_numbers(self):
        for size in [*ODDS, -1, 9, 10 ** 20]:
            self.bad("size", 0, size)
            self.bad("size", "no rank", size)
        for rank in [*ODDS, -1, 4, 10 ** 20]:
            self.bad("rank", rank, 3)

    def bad(self, part, rank, size):
        with self.assertRaises(BadNumber) as caught:
            even_book(rank, size)
        self.assertEqual(caught.exception.part, part)


class Tables(unittest.TestCase):
    def test_by_hand(self):
        self.assertEqual(table_book(2, [[1, 0], [0, 1], [1, 1]]), even_book(2, 3))
        self.assertEqual(table_book(3, [[1], [2], [3]]), Book(3, [(0,), (1,)]))
        self.assertEqual(table_book(5, [[1, 2], [-4, 7]]), Book(2, [(0,), (1,)]))
        self.assertEqual(table_book(7, []), Book(0, [()]))
        self.assertEqual(table_book(7, [[], []]), even_book(0, 2))
        self.assertEqual(table_book(11, [[0, 0], [11, -22]]), even_book(0, 2))
        self.assertEqual(table_book(13, [[10 ** 20, 1], [10 ** 20 + 13, 1]]).rank, 1)
        self.assertEqual(table_book(13, [[10 ** 20, 1], [10 ** 20 + 12, 1]]).rank, 2)
        self.assertEqual(table_book(rows=((1, 0), (0, 1)), prime=2), even_book(2, 2))

    def test_the_prime_counts(self):
        self.assertEqual(len(table_book(2, FANO).bases), 28)
        self.assertEqual(len(table_book(3, FANO).bases), 29)
        rows = [[1, 0], [0, 1], [1, 1], [1, 2], [1, 3], [1, 4], [1, 5], [1, 6]]
        for prime in (2, 3, 5, 7, 11, 13):
            bound = [pair for pair in combinations(range(8), 2)
                     if (rows[pair[0]][0] * rows[pair[1]][1] - rows[pair[0]][1] * rows[pair[1]][0]) % prime == 0]
            book = table_book(prime, rows)
            self.assertEqual([pair for pair in combinations(range(8), 2) if pair not in book.bases], bound)

    def test_free_lots(self):
        chance = Random(3)
        for prime in (2, 3, 5):
            for _ in range(12):
                width = chance.randint(1, 3)
                rows = [[chance.randint(-9, 9) for _ in range(width)] for _ in range(chance.randint(1, 5))]
                before = copy.deepcopy(rows)
                found = free_lots(table_book(prime, rows))
                self.assertEqual(rows, before)
                self.assertEqual(found, sorted(lot for lot in parts_of(range(len(rows))) if len(lot) <= width
                                               and is_free(prime, [rows[x] for x in lot])))

    def test_bad_primes(self):
        for prime in [*ODDS, -2, 0, 1, 4, 6, 8, 9, 10, 12, 14, 15, 17, 2.0, 10 ** 20]:
            with self.assertRaises(BadPrime):
                table_book(prime, [[1]])
            with self.assertRaises(BadPrime):
                table_book(prime, "no rows")

    def test_bad_rows(self):
        for rows in [*ODDS, 0, [0], [[1], [1, 2]], [[1], []], [[True]], [["1"]], ["ab"], [[1.0]], [[None]],
                     {0: [1]}, [{1: 2}], [[1]] * 9, [[]] * 9]:
            with self.assertRaises(BadTable):
                table_book(2, rows)
        self.assertEqual(table_book(2, [[1]] * 8), even_book(1, 8))


class Webs(unittest.TestCase):
    def test_by_hand(self):
        self.assertEqual(web_book(3, [(0, 1), (1, 2), (2, 0)]), even_book(2, 3))
        self.assertEqual(web_book(2, [(0, 1), (1, 0), (0, 1)]), even_book(1, 3))
        self.assertEqual(idle(web_book(2, [(0, 1), (1, 1)])), (1,))
        self.assertEqual(web_book(1, []), Book(0, [()]))
        self.assertEqual(web_book(8, []), Book(0, [()]))
        self.assertEqual(web_book(1, [(0, 0)] * 8), even_book(0, 8))
        self.assertEqual(web_book(8, [(0, 7)]), even_book(1, 1))
        self.assertEqual(web_book(ties=((0, 1), (2, 3)), places=4), even_book(2, 2))
        self.assertEqual(web_book(8, [(k, (k + 1) % 8) for k in range(8)]), even_book(7, 8))

    def test_free_lots(self):
        chance = Random(4)
        for _ in range(60):
            places = chance.randint(1, 6)
            ties = [(chance.randrange(places), chance.randrange(places)) for _ in range(chance.randint(0, 8))]
            before = list(ties)
            found = free_lots(web_book(places, ties))
            self.assertEqual(ties, before)
            self.assertEqual(found, sorted(lot for lot in parts_of(range(len(ties)))
                                           if makes_no_round(places, [ties[x] for x in lot])))

    def test_bad_places(self):
        for places in [*ODDS, 0, -1, 9, 10 ** 20]:
            for ties in ([], "no ties"):
                with self.assertRaises(BadNumber) as caught:
                    web_book(places, ties)
                self.assertEqual(caught.exception.part, "places")

    def test_bad_ties(self):
        for ties in [*ODDS, 0, [0], [[0, 1]], [(0,)], [(0, 1, 2)], [(0, 3)], [(-1, 0)], [(True, 0)],
                     [(0, 1), [1, 2]], [("0", "1")], ["01"], [(0, None)], {(0, 1): 1}, [(0, 1)] * 9]:
            with self.assertRaises(BadTable):
                web_book(3, ties)
        self.assertEqual(web_book(3, [(0, 1)] * 8), even_book(1, 8))


if __name__ == "__main__":
    unittest.main()

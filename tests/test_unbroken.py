"""Point 21: lots without broken rounds, and shadings."""

import unittest
from itertools import product
from random import Random

from flatrooms.alike import renamed
from flatrooms.books import Book
from flatrooms.errors import BadBook, BadNumber, BadTable
from flatrooms.makers import even_book, web_book
from flatrooms.ranks import free_lots, idle, least_bound
from flatrooms.signs import sign_row
from flatrooms.unbroken import shadings, unbroken
from tests.samples import ODDS, book_of, many_books, orders_of


def plain_shadings(places, ties, hues):
    return sum(all(shade[start] != shade[end] for start, end in ties)
               for shade in product(range(hues), repeat=places))


class Unbroken(unittest.TestCase):
    def test_by_hand(self):
        self.assertEqual(unbroken(even_book(2, 3)), [(), (0,), (0, 1), (0, 2), (1,), (2,)])
        self.assertEqual(unbroken(book=even_book(1, 3)), [(), (0,)])
        self.assertEqual(unbroken(Book(0, [()])), [()])
        self.assertEqual(unbroken(even_book(0, 1)), [])
        self.assertEqual(unbroken(book_of(2, (0,))), [])
        self.assertEqual(unbroken(book_of(2, (0, 1))), [(), (0,), (0, 1), (1,)])

    def test_from_the_definition(self):
        for book in many_books():
            broken = [set(lot[1:]) for lot in least_bound(book)]
            expected = [lot for lot in free_lots(book) if not any(one <= set(lot) for one in broken)]
            self.assertEqual(unbroken(book), [] if idle(book) else expected)

    def test_as_many_as_the_row_of_signs_has(self):
        for book in many_books():
            for order in orders_of(book, 2):
                lots = unbroken(renamed(book, order))
                self.assertEqual(lots, sorted(lots))
                for k, number in enumerate(sign_row(book)):
                    self.assertEqual(len([lot for lot in lots if len(lot) == k]), abs(number))

    def test_new_lists(self):
        unbroken(even_book(1, 1)).clear()
        self.assertEqual(unbroken(even_book(1, 1)), [(), (0,)])

    def test_bad_books(self):
        for thing in [*ODDS, 0]:
            with self.assertRaises(BadBook) as caught:
                unbroken(thing)
            self.assertIsNone(caught.exception.part)


class Shadings(unittest.TestCase):
    def test_by_hand(self):
        self.assertEqual(shadings(3, [(0, 1), (1, 2), (0, 2)], 3), 6)
        self.assertEqual(shadings(3, [(0, 1), (1, 2), (0, 2)], 2), 0)
        self.assertEqual(shadings(8, [], 6), 6 ** 8)
        self.assertEqual(shadings(8, [], 0), 0)
        self.assertEqual(shadings(hues=6, ties=((0, 0),), places=1), 0)
        self.assertEqual(shadings(2, [(0, 1), (1, 0), (0, 1)], 4), 12)

    def test_one_by_one(self):
        chance = Random(6)
        for _ in range(60):
            places = chance.randint(1, 5)
            ties = [(chance.randrange(places), chance.randrange(places)) for _ in range(chance.randint(0, 8))]
            before = list(ties)
            for hues in range(5):
                self.assertEqual(shadings(places, ties, hues), plain_shadings(places, ties, hues))
            self.assertEqual(ties, before)

    def test_the_row_of_signs_tells_them(self):
        chance = Random(7)
        for _ in range(40):
            places = chance.randint(1, 8)
            ties = [(chance.randrange(places), chance.randrange(places)) for _ in range(chance.randint(0, 8))]
            book = web_book(places, ties)
            for hues in range(7):
                told = sum(number * hues ** (book.rank - k) for k, number in enumerate(sign_row(book)))
                self.assertEqual(shadings(places, ties, hues), hues ** (places - book.rank) * told)

    def test_wrong_values_in_sequence(self):
        for places in [*ODDS, 0, 9, -1]:
            with self.assertRaises(BadNumber) as caught:
                shadings(places, "no ties", "no hues")
            self.assertEqual(caught.exception.part, "places")
        for ties in [*ODDS, 0, [[0, 1]], [(0, 3)], [(0,)], [(0, 1)] * 9, [(True, 0)]]:
            with self.assertRaises(BadTable):
                shadings(3, ties, "no hues")
        for hues in [*ODDS, -1, 7, 10 ** 20]:
            with self.assertRaises(BadNumber) as caught:
                shadings(3, [(0, 1)], hues)
            self.assertEqual(caught.exception.part, "hues")


if __name__ == "__main__":
    unittest.main()

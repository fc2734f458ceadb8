"""Point 14: books that differ by names alone."""

import unittest
from itertools import permutations

from flatrooms.alike import all_books, alike, plain_book, renamed
from flatrooms.books import Book
from flatrooms.errors import BadBook, BadLot, BadNumber, TooMany
from flatrooms.makers import even_book, table_book
from flatrooms.ranks import least_bound
from flatrooms.sides import made_freer
from tests.samples import (CUBE, ODDS, book_of, freer_books, many_books, orders_of, parts_of,
                           plain_rank, relaxable, small_books)


class Renamed(unittest.TestCase):
    def test_by_hand(self):
        book = book_of(3, (0, 1), (0, 2))
        self.assertEqual(renamed(book, [1, 2, 0]), book_of(3, (1, 2), (0, 1)))
        self.assertEqual(renamed(order=(2, 0, 1), book=book), book_of(3, (0, 2), (1, 2)))
        self.assertEqual(renamed(Book(0, [()]), []), Book(0, [()]))

    def test_each_thing_becomes_what_is_told(self):
        for book in many_books():
            for order in orders_of(book, 3):
                other = renamed(book, order)
                back = [order.index(x) for x in range(book.size)]
                self.assertEqual(renamed(other, tuple(back)), book)
                if book.size <= 6:
                    for lot in parts_of(range(book.size)):
                        self.assertEqual(plain_rank(other, [order[x] for x in lot]), plain_rank(book, lot))

    def test_the_order_stays(self):
        order = [2, 0, 1]
        renamed(even_book(2, 3), order)
        self.assertEqual(order, [2, 0, 1])

    def test_bad_orders(self):
        for order in [*ODDS, 0, [], (), [0, 1], [0, 1, 1], [0, 1, 3], [1, 2, 3], [0, 1, 2, 3], [0, 1, None],
                      [0, True, 2], "012", {0: 0, 1: 1, 2: 2}, [0, 1, 2.0], [-1, 0, 1], [[0, 1, 2]]]:
            with self.assertRaises(BadLot):
                renamed(even_book(2, 3), order)
        with self.assertRaises(BadLot):
            renamed(Book(0, [()]), [0])


class Alike(unittest.TestCase):
    def test_each_two_small_ones(self):
        books = small_books(4)
        for at, one in enumerate(books):
            for to, other in enumerate(books):
                self.assertEqual(alike(one, renamed(other, list(range(other.size))[::-1])), at == to)

    def test_against_all_orders(self):
        books = [book for book in many_books() if book.size == 5]
        for one in books:
            for other in books[::3]:
                self.assertEqual(alike(one, other),
                                 any(renamed(one, order) == other for order in permutations(range(5))))

    def test_renamed_ones(self):
        for book in many_books():
            for order in orders_of(book, 3):
                self.assertTrue(alike(book, renamed(book, order)))
                self.assertTrue(alike(one=renamed(book, order), other=book))

    def test_great_ones_with_as_many_bases(self):
        cube = table_book(2, CUBE)
        lots = relaxable(cube)
        self.assertTrue(alike(made_freer(cube, lots[0]), made_freer(cube, lots[9])))
        first = made_freer(cube, lots[0])
        apart = [lot for lot in lots[1:] if not set(lot) & set(lots[0])]
        self.assertEqual(len(apart), 1)
        two_apart = made_freer(first, apart[0])
        two_that_meet = [made_freer(first, lot) for lot in lots[1:] if lot not in apart]
        self.assertFalse(alike(two_apart, two_that_meet[0]))
        self.assertTrue(alike(two_that_meet[0], two_that_meet[-1]))

    def test_other_sizes_and_ranks(self):
        self.assertFalse(alike(even_book(1, 3), even_book(2, 3)))
        self.assertFalse(alike(even_book(0, 2), even_book(0, 3)))
        self.assertFalse(alike(even_book(1, 2), book_of(3, (0,), (1,))))
        self.assertTrue(alike(Book(0, [()]), Book(0, [()])))
        self.assertIs(alike(even_book(2, 8), even_book(2, 8)), True)


class Plain(unittest.TestCase):
    def test_the_least_of_all(self):
        for book in many_books():
            if book.size <= 5:
                self.assertEqual(plain_book(book).bases,
                                 min(renamed(book, order).bases for order in permutations(range(book.size))))

    def test_of_six_things(self):
        for book in [book for book in freer_books() if book.size == 6]:
            plain = plain_book(book)
            self.assertTrue(alike(plain, book))
            for order in orders_of(book, 3):
                self.assertEqual(plain_book(book=renamed(book, order)), plain)
            self.assertLessEqual(plain.bases, book.bases)

    def test_by_hand(self):
        self.assertEqual(plain_book(book_of(3, (1, 2), (0, 2))), book_of(3, (0, 1), (0, 2)))
        self.assertEqual(plain_book(book_of(2, (1,))), book_of(2, (0,)))
        self.assertEqual(plain_book(Book(0, [()])), Book(0, [()]))

    def test_too_many(self):
        for size in (7, 8):
            with self.assertRaises(TooMany) as caught:
                plain_book(even_book(1, size))
            self.assertEqual(caught.exception.most, 6)


class All(unittest.TestCase):
    def test_how_many(self):
        self.assertEqual([[len(all_books(size, rank)) for rank in range(size + 1)] for size in range(6)],
                         [[1], [1, 1], [1, 2, 1], [1, 3, 3, 1], [1, 4, 7, 4, 1], [1, 5, 13, 13, 5, 1]])

    def test_they_are_plain_and_ascend(self):
        for size in range(6):
            for rank in range(size + 1):
                books = all_books(rank=rank, size=size)
                self.assertIs(type(books), list)
                bases = [book.bases for book in books]
                self.assertEqual(bases, sorted(set(bases)))
                for book in books:
                    self.assertEqual((book.size, book.rank), (size, rank))
                    self.assertEqual(plain_book(book), book)

    def test_each_book_is_alike_to_one(self):
        for book in many_books():
            if book.size <= 5:
                self.assertIn(plain_book(book), all_books(book.size, book.rank))

    def test_by_hand(self):
        self.assertEqual(all_books(2, 1), [book_of(2, (0,)), book_of(2, (0,), (1,))])
        self.assertEqual(all_books(3, 2), [book_of(3, (0, 1)), book_of(3, (0, 1), (0, 2)), even_book(2, 3)])
        self.assertEqual([least_bound(book) for book in all_books(3, 2)], [[(2,)], [(1, 2)], [(0, 1, 2)]])

    def test_bad_numbers(self):
        for size in [*ODDS, -1, 6, 10 ** 20]:
            for rank in (0, "no rank"):
                with self.assertRaises(BadNumber) as caught:
                    all_books(size, rank)
                self.assertEqual(caught.exception.part, "size")
        for rank in [*ODDS, -1, 4, 10 ** 20]:
            with self.assertRaises(BadNumber) as caught:
                all_books(3, rank)
            self.assertEqual(caught.exception.part, "rank")

    def test_new_lists(self):
        all_books(3, 1).clear()
        self.assertEqual(len(all_books(3, 1)), 3)


class BadBooks(unittest.TestCase):
    def test_they_come_first(self):
        great = even_book(1, 8)
        for thing in [*ODDS, 0]:
            for call in (lambda: renamed(thing, "x"), lambda: alike(thing, great), lambda: alike(great, thing),
                         lambda: alike(thing, thing), lambda: plain_book(thing)):
                with self.assertRaises(BadBook) as caught:
                    call()
                self.assertIsNone(caught.exception.part)


if __name__ == "__main__":
    unittest.main()

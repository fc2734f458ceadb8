"""Point 90: rows, their products, and the rows between flats."""

import unittest
from random import Random

from flatrooms.errors import BadBook, BadLot, BadRow
from flatrooms.makers import even_book, table_book
from flatrooms.rows import between, is_row, row_product
from tests.flathelp import (NO_FLATS, empty_book, highest, lowest, order_books, plain_between, plus, sequence,
                            times_row, within)
from tests.samples import FANO, ODDS, book_of
from tests.weighthelp import GREAT

ROWS = [(), (1,), (-1,), (0, 1), (1, 2), (1, -1), (0, 0, GREAT), (3, 0, -GREAT), (1, 1, 1, 1), (GREAT,)]
NO_ROWS = ODDS + [0, 1, [], [1], [1, 2], (0,), (1, 0), (0, 0), (1, True), (1, 2.0), (1, None),
                                       (None, 1), (True, 1), ((1,), 1), (1, (1,)), "1", (1, "1"), {1: 1}, range(1, 3)]


class Rows(unittest.TestCase):
    def test_is_row(self):
        for row in ROWS:
            self.assertIs(is_row(row), True)
        for thing in NO_ROWS:
            self.assertIs(is_row(thing), False)
        self.assertIs(is_row(thing=(2,)), True)

    def test_product_by_hand(self):
        self.assertEqual(row_product((1, 2), (3, 4)), (3, 10, 8))
        self.assertEqual(row_product((1, 1), (1, -1)), (1, 0, -1))
        self.assertEqual(row_product(other=(0, 1), one=(5,)), (0, 5))
        self.assertEqual(row_product((), (1, 2)), ())
        self.assertEqual(row_product((1, 2), ()), ())
        self.assertEqual(row_product((), ()), ())
        self.assertEqual(row_product((GREAT, GREAT), (GREAT,)), (GREAT ** 2, GREAT ** 2))

    def test_products(self):
        for one in ROWS:
            for other in ROWS:
                found = row_product(one, other)
                self.assertIs(type(found), tuple)
                self.assertTrue(is_row(found))
                self.assertEqual(found, times_row(one, other))
                self.assertEqual(found, row_product(other, one))
                for third in ROWS[::3]:
                    self.assertEqual(row_product(found, third), row_product(one, row_product(other, third)))
                    self.assertEqual(row_product(plus(one, other), third),
                                     plus(row_product(one, third), row_product(other, third)))

    def test_no_rows(self):
        for thing in NO_ROWS:
            with self.assertRaises(BadRow):
                row_product(thing, (1,))
            with self.assertRaises(BadRow):
                row_product((), thing)


class Between(unittest.TestCase):
    def test_by_hand(self):
        book = even_book(2, 3)
        self.assertEqual(between(book, (), (0, 1, 2)), (2, -3, 1))
        self.assertEqual(between(book, (), (1,)), (-1, 1))
        self.assertEqual(between(other=(0, 1, 2), flat=(1,), book=book), (-1, 1))
        self.assertEqual(between(book, (1,), (1,)), (1,))
        self.assertEqual(between(even_book(3, 3), (), (0, 1, 2)), (-1, 3, -3, 1))
        self.assertEqual(between(even_book(3, 3), (1,), (0, 1, 2)), (1, -2, 1))
        self.assertEqual(between(table_book(2, FANO), (), tuple(range(7))), (-8, 14, -7, 1))
        self.assertEqual(between(empty_book(), (), ()), (1,))
        self.assertEqual(between(even_book(0, 2), (0, 1), (0, 1)), (1,))
        self.assertEqual(between(book_of(3, (0,), (1,)), (2,), (0, 1, 2)), (-1, 1))

    def test_from_the_definition(self):
        for book in order_books():
            chance = Random(90)
            every = sequence(book)
            pairs = [(lowest(book), highest(book))]
            pairs += [(low, high) for low in every for high in every if within(low, high)] if len(every) < 40 else []
            for low, high in chance.sample(pairs, min(len(pairs), 25)):
                row = between(book, low, high)
                self.assertIs(type(row), tuple)
                self.assertEqual(row, plain_between(book, low, high))
                self.assertEqual(row[-1], 1)
                self.assertEqual(len(row), every[high] - every[low] + 1)
                self.assertEqual(sum(row), 1 if low == high else 0)

    def test_wrong_flats(self):
        book = even_book(2, 3)
        for flat in NO_FLATS:
            with self.assertRaises(BadLot):
                between(book, flat, (0, 1, 2))
            with self.assertRaises(BadLot):
                between(book, (), flat)
        for low, high in (((0,), (1,)), ((0,), ()), ((0, 1, 2), (0,))):
            with self.assertRaises(BadLot):
                between(book, low, high)
        with self.assertRaises(BadLot):
            between(even_book(0, 2), (), (0, 1))

    def test_books_come_first(self):
        for thing in [*ODDS, 0]:
            with self.assertRaises(BadBook) as caught:
                between(thing, None, None)
            self.assertIsNone(caught.exception.part)


if __name__ == "__main__":
    unittest.main()

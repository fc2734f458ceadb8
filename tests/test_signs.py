"""Point 20: signs of flats, the row of signs, the short row."""

import unittest
from itertools import accumulate
from math import comb

from flatrooms.alike import renamed
from flatrooms.books import Book
from flatrooms.errors import BadBook, BadNumber
from flatrooms.makers import even_book, table_book, web_book
from flatrooms.ranks import idle, sure
from flatrooms.sides import drawn_in, left_out, side_by_side
from flatrooms.signs import short_row, sign_row, signs
from tests.samples import FANO, ODDS, book_of, many_books, orders_of, plain_flats, plain_rank, small_books


class Signs(unittest.TestCase):
    def test_by_hand(self):
        self.assertEqual(signs(even_book(2, 3)), {(): 1, (0,): -1, (1,): -1, (2,): -1, (0, 1, 2): 2})
        self.assertEqual(signs(book=book_of(3, (0,), (1,))), {(2,): 1, (0, 1, 2): -1})
        self.assertEqual(signs(Book(0, [()])), {(): 1})
        self.assertEqual(signs(even_book(0, 8)), {tuple(range(8)): 1})
        self.assertEqual(signs(table_book(2, FANO))[tuple(range(7))], -8)
        self.assertEqual(signs(even_book(8, 8))[tuple(range(8))], 1)

    def test_within_each_flat_they_add_up(self):
        for book in many_books():
            if book.size > 7:
                continue
            found = signs(book)
            self.assertEqual(list(found), plain_flats(book))
            for flat in found:
                within = sum(number for other, number in found.items() if set(other) <= set(flat))
                self.assertEqual(within, 0 if plain_rank(book, flat) else 1)

    def test_new_dicts(self):
        signs(even_book(1, 1)).clear()
        self.assertEqual(len(signs(even_book(1, 1))), 2)


class Rows(unittest.TestCase):
    def test_by_hand(self):
        self.assertEqual(sign_row(even_book(2, 3)), (1, -3, 2))
        self.assertEqual(sign_row(book=Book(0, [()])), (1,))
        self.assertEqual(sign_row(even_book(0, 1)), (0,))
        self.assertEqual(sign_row(book_of(3, (0, 1))), (0, 0, 0))
        self.assertEqual(sign_row(table_book(2, FANO)), (1, -7, 14, -8))
        self.assertEqual(sign_row(even_book(3, 3)), (1, -3, 3, -1))
        self.assertEqual(short_row(even_book(2, 3)), (1, 2))
        self.assertEqual(short_row(book=even_book(2, 2)), (1, 1))
        self.assertEqual(short_row(table_book(2, FANO)), (1, 6, 8))
        self.assertEqual(short_row(even_book(1, 8)), (1,))

    def test_even_books(self):
        for size in range(1, 9):
            for rank in range(1, size + 1):
                row = [(-1) ** k * comb(size, k) for k in range(rank)]
                self.assertEqual(sign_row(even_book(rank, size)), (*row, -sum(row)))

    def test_sums_of_signs(self):
        for book in many_books():
            row = sign_row(book)
            self.assertIs(type(row), tuple)
            self.assertEqual(len(row), book.rank + 1)
            if idle(book):
                self.assertEqual(row, (0,) * (book.rank + 1))
                continue
            for k in range(book.rank + 1):
                self.assertEqual(row[k], sum(number for flat, number in signs(book).items()
                                             if plain_rank(book, flat) == k))
                self.assertGreater(row[k] * (-1) ** k, 0)
            if book.rank > 0:
                self.assertEqual(sum(row), 0)
                self.assertEqual(short_row(book), tuple(abs(x) for x in accumulate(row[:-1])))

    def test_a_thing_left_out_and_drawn_in(self):
        for book in many_books() + small_books(5):
            if book.size > 7:
                continue
            for thing in range(book.size):
                if thing not in idle(book) + sure(book):
                    without = sign_row(left_out(book, thing))
                    within = (0, *sign_row(drawn_in(book, thing)))
                    self.assertEqual(sign_row(book), tuple(a - b for a, b in zip(without, within, strict=True)))

    def test_renamed_and_side_by_side(self):
        for book in many_books():
            for order in orders_of(book, 2):
                self.assertEqual(sign_row(renamed(book, order)), sign_row(book))
        one, other = table_book(3, [[1, 0], [0, 1], [1, 1], [1, 2]]), even_book(2, 3)
        product = [0] * 5
        for i, a in enumerate(sign_row(one)):
            for k, b in enumerate(sign_row(other)):
                product[i + k] += a * b
        self.assertEqual(sign_row(side_by_side(one, other)), tuple(product))

    def test_squares_of_numbers(self):
        for book in many_books() + small_books(5):
            if book.rank and not idle(book):
                for row in (short_row(book), sign_row(book)):
                    for low, number, high in zip(row, row[1:], row[2:]):
                        self.assertGreaterEqual(number * number, low * high)


class Wrong(unittest.TestCase):
    def test_no_short_row(self):
        for book in (Book(0, [()]), even_book(0, 2)):
            with self.assertRaises(BadNumber) as caught:
                short_row(book)
            self.assertEqual(caught.exception.part, "rank")
        for book in (book_of(2, (0,)), web_book(2, [(0, 1), (1, 1)])):
            with self.assertRaises(BadBook) as caught:
                short_row(book)
            self.assertEqual(caught.exception.part, "idle")

    def test_bad_books(self):
        for thing in [*ODDS, 0]:
            for asked in (signs, sign_row, short_row):
                with self.assertRaises(BadBook) as caught:
                    asked(thing)
                self.assertIsNone(caught.exception.part)


if __name__ == "__main__":
    unittest.main()

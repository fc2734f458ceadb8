"""Point 92: back rows."""

import unittest

from flatrooms.alike import renamed
from flatrooms.backrows import back_row
from flatrooms.errors import BadBook
from flatrooms.flats import above, below
from flatrooms.makers import even_book, table_book
from flatrooms.ownrows import own_row
from flatrooms.rows import is_row, row_product
from flatrooms.sides import side_by_side
from flatrooms.signs import signs
from tests.flathelp import TWINS, empty_book, highest, order_books, plus, sequence, times_row
from tests.samples import CUBE, FANO, ODDS, orders_of


class BackRow(unittest.TestCase):
    def test_by_hand(self):
        self.assertEqual(back_row(even_book(3, 4)), (3, 2))
        self.assertEqual(back_row(book=even_book(2, 3)), (2,))
        self.assertEqual(back_row(even_book(1, 6)), (1,))
        self.assertEqual(back_row(empty_book()), (1,))
        self.assertEqual(back_row(even_book(0, 8)), (1,))
        self.assertEqual(back_row(table_book(2, FANO)), (8,))
        for size in range(9):
            self.assertEqual(back_row(even_book(size, size)), (1,))

    def test_both_sums_are_nothing(self):
        for book in order_books():
            if len(sequence(book)) > 60 or book.rank == 0:
                continue
            one, other = (), ()
            for flat, rank in sequence(book).items():
                low, high, sign = below(book, flat), above(book, flat), -1 if rank % 2 else 1
                one = plus(one, times_row(own_row(low), back_row(high)), sign)
                other = plus(other, times_row(back_row(low), own_row(high)), sign)
            self.assertEqual(one, ())
            self.assertEqual(other, ())

    def test_what_numbers_they_are(self):
        for book in order_books() + [table_book(2, CUBE), even_book(5, 8), even_book(3, 8)]:
            row = back_row(book)
            self.assertTrue(is_row(row))
            self.assertGreaterEqual(min(row), 0)
            self.assertEqual(row[0], abs(signs(book)[highest(book)]))
            if book.rank == 0:
                self.assertEqual(row, (1,))
            else:
                self.assertLess(2 * (len(row) - 1), book.rank)

    def test_idle_things_and_twins_change_nothing(self):
        self.assertEqual(back_row(TWINS), back_row(table_book(3, [[1, 0, 0], [0, 1, 0], [0, 0, 1], [1, 1, 0]])))
        rows = [[1, 0, 0, 0], [0, 1, 0, 0], [0, 0, 1, 0], [0, 0, 0, 1], [1, 1, 1, 1]]
        for more in ([[0, 0, 0, 0]], [[2, 0, 0, 0]], [[0, 0, 0, 0], [2, 2, 2, 2], [0, 0, 2, 0]]):
            self.assertEqual(back_row(table_book(3, [*more, *rows])), back_row(even_book(4, 5)))
        for book in order_books():
            if book.size < 7:
                self.assertEqual(back_row(side_by_side(even_book(0, 1), book)), back_row(book))

    def test_side_by_side(self):
        books = [even_book(3, 4), even_book(0, 1), even_book(1, 2), even_book(2, 4), empty_book(), even_book(3, 3)]
        for one in books:
            for other in books:
                self.assertEqual(back_row(side_by_side(one, other)), row_product(back_row(one), back_row(other)))

    def test_renamed(self):
        for book in order_books()[::3]:
            for order in orders_of(book, 3):
                self.assertEqual(back_row(renamed(book, order)), back_row(book))

    def test_books(self):
        for thing in [*ODDS, 0]:
            with self.assertRaises(BadBook) as caught:
                back_row(thing)
            self.assertIsNone(caught.exception.part)


if __name__ == "__main__":
    unittest.main()

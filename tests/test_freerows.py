"""Point 84: how many free lots there are, and the gaps of their squares."""

import unittest

from flatrooms.errors import BadBook
from flatrooms.freerows import free_gaps, free_row
from flatrooms.makers import even_book, table_book
from flatrooms.ranks import free_lots
from flatrooms.sides import side_by_side
from tests.flathelp import empty_book, order_books
from tests.roomhelp import choose
from tests.samples import CUBE, FANO, ODDS, book_of


class FreeRow(unittest.TestCase):
    def test_by_hand(self):
        self.assertEqual(free_row(even_book(2, 3)), (1, 3, 3))
        self.assertEqual(free_row(book=table_book(2, FANO)), (1, 7, 21, 28))
        self.assertEqual(free_row(empty_book()), (1,))
        self.assertEqual(free_row(even_book(0, 5)), (1,))
        self.assertEqual(free_row(book_of(3, (0,), (1,))), (1, 2))

    def test_from_the_definition(self):
        for book in order_books():
            found = free_row(book)
            self.assertIs(type(found), tuple)
            lengths = [len(lot) for lot in free_lots(book)]
            self.assertEqual(found, tuple(lengths.count(k) for k in range(book.rank + 1)))
            self.assertEqual(found[-1], len(book.bases))

    def test_side_by_side(self):
        books = [book for book in order_books() if book.size <= 4][::2]
        for one in books[::3]:
            for other in books:
                first, second = free_row(one), free_row(other)
                row = [0] * (len(first) + len(second) - 1)
                for i, a in enumerate(first):
                    for k, b in enumerate(second):
                        row[i + k] += a * b
                self.assertEqual(free_row(side_by_side(one, other)), tuple(row))


class FreeGaps(unittest.TestCase):
    def test_by_hand(self):
        # 3 * 3 * (1 * 3) - 1 * 3 * (3 * 3).
        self.assertEqual(free_gaps(even_book(2, 3)), (0,))
        self.assertEqual(free_gaps(side_by_side(even_book(1, 2), even_book(1, 2))), (4 * 4 * 6 - 4 * 16,))
        # An idle thing counts among all things.
        self.assertEqual(free_gaps(book=book_of(3, (0, 1))), (2 * 2 * 3 - 1 * 1 * 9,))
        self.assertEqual(free_gaps(table_book(2, FANO)), (0, 21 * 21 * 7 * 35 - 7 * 28 * 21 * 21))
        for book in (empty_book(), even_book(0, 3), even_book(1, 1), even_book(1, 8), book_of(3, (0,))):
            self.assertEqual(free_gaps(book), ())

    def test_from_the_definition_and_none_below_zero(self):
        for book in order_books() + [table_book(2, CUBE)]:
            row, size, found = free_row(book), book.size, free_gaps(book)
            self.assertIs(type(found), tuple)
            self.assertEqual(found, tuple(
                row[k] ** 2 * choose(size, k - 1) * choose(size, k + 1) - row[k - 1] * row[k + 1] * choose(size, k) ** 2
                for k in range(1, book.rank)))
            self.assertGreaterEqual(min(found, default=0), 0)

    def test_all_free(self):
        for size in range(9):
            self.assertEqual(free_gaps(even_book(size, size)), (0,) * max(size - 1, 0))


class Wrong(unittest.TestCase):
    def test_books(self):
        for thing in [*ODDS, 0]:
            for call in (free_row, free_gaps):
                with self.assertRaises(BadBook) as caught:
                    call(thing)
                self.assertIsNone(caught.exception.part)


if __name__ == "__main__":
    unittest.main()

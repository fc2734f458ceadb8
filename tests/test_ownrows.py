"""Point 91: own rows."""

import unittest

from flatrooms.errors import BadBook
from flatrooms.flats import above
from flatrooms.makers import even_book, table_book, web_book
from flatrooms.ownrows import own_row, own_rows
from flatrooms.ranks import sure
from flatrooms.rising import flat_row
from flatrooms.rows import is_row, row_product
from flatrooms.sides import side_by_side
from flatrooms.alike import renamed
from tests.flathelp import (TWINS, backwards, empty_book, highest, lowest, order_books, plain_between, plus, sequence,
                            times_row, within)
from tests.samples import CUBE, FANO, ODDS, book_of, orders_of


class ByHand(unittest.TestCase):
    def test_rows(self):
        self.assertEqual(own_row(even_book(3, 4)), (1, 2))
        self.assertEqual(own_row(book=even_book(4, 6)), (1, 14))
        self.assertEqual(own_row(even_book(5, 6)), (1, 9, 5))
        self.assertEqual(own_row(table_book(2, FANO)), (1,))
        self.assertEqual(own_row(empty_book()), (1,))
        self.assertEqual(own_row(even_book(0, 8)), (1,))
        self.assertEqual(own_row(even_book(1, 5)), (1,))
        self.assertEqual(own_row(web_book(4, [(0, 1), (0, 2), (0, 3), (1, 2), (1, 3), (2, 3)])), (1, 1))
        self.assertEqual(own_rows(book=even_book(1, 2)), {(): (1,), (0, 1): (1,)})
        found = own_rows(even_book(3, 4))
        self.assertEqual(list(found)[:3], [(), (0,), (0, 1)])
        self.assertEqual(found[()], (1, 2))
        self.assertEqual(set(found[flat] for flat in found if flat), {(1,)})
        self.assertEqual(own_rows(book_of(2, (0,))), {(0, 1): (1,), (1,): (1,)})


class Heart(unittest.TestCase):
    def test_the_one_way(self):
        for book in order_books():
            ranks, found = sequence(book), own_rows(book)
            self.assertEqual(list(found), sorted(ranks))
            self.assertEqual(found[highest(book)], (1,))
            self.assertEqual(own_row(book), found[lowest(book)])
            for flat, row in found.items():
                d = book.rank - ranks[flat]
                self.assertTrue(is_row(row))
                self.assertEqual(row[0], 1)
                self.assertGreaterEqual(min(row), 0)
                if d > 0:
                    self.assertLess(2 * (len(row) - 1), d)
            for flat in list(found)[::1 if len(found) < 25 else len(found) // 6]:
                total = ()
                for other in found:
                    if within(flat, other):
                        total = plus(total, times_row(plain_between(book, flat, other), found[other]))
                self.assertEqual(backwards(found[flat], book.rank - ranks[flat]), total)

    def test_books_above(self):
        for book in order_books():
            found = own_rows(book)
            for flat in list(found)[::1 if len(found) < 25 else 7]:
                self.assertEqual(found[flat], own_row(above(book, flat)))

    def test_great_books(self):
        for book in (table_book(2, CUBE), even_book(5, 8), even_book(8, 8), even_book(4, 7), even_book(7, 8)):
            row = own_row(book)
            self.assertEqual(row[0], 1)
            self.assertLess(2 * (len(row) - 1), book.rank)
            self.assertGreaterEqual(min(row), 0)


class Facts(unittest.TestCase):
    def test_the_number_at_one(self):
        for book in order_books():
            row, flat_numbers = own_row(book), flat_row(book)
            if book.rank < 3:
                self.assertEqual(row, (1,))
            else:
                self.assertEqual((*row, 0)[1], flat_numbers[book.rank - 1] - flat_numbers[1])

    def test_idle_things_and_twins_change_nothing(self):
        # Things 0 and 1, and 2 and 3, are bound two by two.
        self.assertEqual(own_row(TWINS), own_row(table_book(3, [[1, 0, 0], [0, 1, 0], [0, 0, 1], [1, 1, 0]])))
        rows = [[1, 0, 0, 0], [0, 1, 0, 0], [0, 0, 1, 0], [0, 0, 0, 1], [1, 1, 1, 1]]
        plain = own_row(table_book(3, rows))
        self.assertEqual(plain, (1, 5))
        for more in ([[0, 0, 0, 0]], [[2, 0, 0, 0]], [[0, 0, 0, 0], [2, 2, 2, 2], [0, 0, 2, 0]]):
            self.assertEqual(own_row(table_book(3, [*more, *rows])), plain)
        for book in order_books():
            if book.size < 7:
                self.assertEqual(own_row(side_by_side(even_book(0, 1), book)), own_row(book))

    def test_side_by_side(self):
        books = [even_book(3, 4), even_book(0, 1), even_book(1, 2), even_book(2, 4), empty_book(), even_book(3, 3)]
        for one in books:
            for other in books:
                self.assertEqual(own_row(side_by_side(one, other)), row_product(own_row(one), own_row(other)))
        self.assertEqual(own_row(side_by_side(even_book(3, 4), even_book(3, 4))), (1, 4, 4))

    def test_all_sure(self):
        for size in range(9):
            self.assertEqual(own_row(even_book(size, size)), (1,))
        for book in order_books():
            if len(sure(book)) == book.size:
                self.assertEqual(own_row(book), (1,))

    def test_renamed(self):
        for book in order_books()[::3]:
            for order in orders_of(book, 3):
                found = own_rows(renamed(book, order))
                for flat, row in own_rows(book).items():
                    self.assertEqual(found[tuple(sorted(order[x] for x in flat))], row)


class Wrong(unittest.TestCase):
    def test_books(self):
        for thing in [*ODDS, 0]:
            for call in (own_row, own_rows):
                with self.assertRaises(BadBook) as caught:
                    call(thing)
                self.assertIsNone(caught.exception.part)

    def test_what_is_returned_is_new(self):
        own_rows(even_book(1, 1)).clear()
        self.assertEqual(len(own_rows(even_book(1, 1))), 2)


if __name__ == "__main__":
    unittest.main()

"""Point 93: mirror rows and bent rows."""

import unittest

from flatrooms.alike import renamed
from flatrooms.errors import BadBook
from flatrooms.flats import above
from flatrooms.makers import even_book, table_book
from flatrooms.mirrors import bent_row, mirror_row
from flatrooms.ownrows import own_row
from flatrooms.rising import flat_row
from flatrooms.rows import is_row, row_product
from flatrooms.sides import side_by_side
from tests.flathelp import TWINS, empty_book, order_books, plus, raised, sequence
from tests.roomhelp import choose
from tests.samples import CUBE, FANO, ODDS, book_of, orders_of


class Mirrors(unittest.TestCase):
    def test_by_hand(self):
        self.assertEqual(mirror_row(even_book(3, 4)), (1, 6, 6, 1))
        self.assertEqual(mirror_row(book=even_book(2, 3)), (1, 3, 1))
        self.assertEqual(mirror_row(even_book(1, 4)), (1, 1))
        self.assertEqual(mirror_row(empty_book()), (1,))
        self.assertEqual(mirror_row(even_book(0, 8)), (1,))
        self.assertEqual(mirror_row(table_book(2, FANO)), (1, 7, 7, 1))
        self.assertEqual(mirror_row(even_book(3, 3)), (1, 3, 3, 1))
        self.assertEqual(mirror_row(book_of(3, (0,), (1,))), (1, 1))

    def test_from_the_definition(self):
        for book in order_books():
            if len(sequence(book)) > 60:
                continue
            total = ()
            for flat, rank in sequence(book).items():
                total = plus(total, raised(own_row(above(book, flat)), rank))
            found = mirror_row(book)
            self.assertTrue(is_row(found))
            self.assertEqual(found, total)

    def test_the_same_backwards_and_up_to_the_middle(self):
        for book in order_books() + [table_book(2, CUBE), even_book(5, 8), even_book(7, 8)]:
            row, numbers = mirror_row(book), flat_row(book)
            self.assertEqual(len(row), book.rank + 1)
            self.assertEqual(row, row[::-1])
            half = row[:book.rank // 2 + 1]
            self.assertEqual(list(half), sorted(half))
            for k, number in enumerate(half):
                self.assertGreaterEqual(number, numbers[k])

    def test_side_by_side_and_renamed(self):
        books = [even_book(3, 4), even_book(0, 1), even_book(1, 2), even_book(2, 4), empty_book(), even_book(3, 3)]
        for one in books:
            for other in books:
                both = side_by_side(one, other)
                self.assertEqual(mirror_row(both), row_product(mirror_row(one), mirror_row(other)))
                self.assertEqual(bent_row(both), row_product_padded(bent_row(one), bent_row(other), both.rank))
        for book in (TWINS, table_book(2, FANO), even_book(3, 5)):
            for order in orders_of(book, 3):
                self.assertEqual(mirror_row(renamed(book, order)), mirror_row(book))


def row_product_padded(one, other, rank):
    """The product of two rows that may end with zeros, with rank // 2 + 1 numbers."""
    found = [0] * (rank // 2 + 1)
    for i, a in enumerate(one):
        for k, b in enumerate(other):
            found[i + k] += a * b
    return tuple(found)


class Bent(unittest.TestCase):
    def test_by_hand(self):
        self.assertEqual(bent_row(even_book(3, 4)), (1, 3))
        self.assertEqual(bent_row(book=even_book(2, 3)), (1, 1))
        self.assertEqual(bent_row(even_book(2, 2)), (1, 0))
        self.assertEqual(bent_row(even_book(4, 4)), (1, 0, 0))
        self.assertEqual(bent_row(even_book(1, 1)), (1,))
        self.assertEqual(bent_row(empty_book()), (1,))
        self.assertEqual(bent_row(even_book(0, 3)), (1,))

    def test_it_tells_the_mirror_row(self):
        for book in order_books() + [table_book(2, CUBE), even_book(5, 8), even_book(8, 8)]:
            row = bent_row(book)
            self.assertIs(type(row), tuple)
            self.assertEqual(len(row), book.rank // 2 + 1)
            self.assertGreaterEqual(min(row), 0)
            told = tuple(sum(number * choose(book.rank - 2 * i, k - i) for i, number in enumerate(row))
                         for k in range(book.rank + 1))
            self.assertEqual(told, mirror_row(book))


class Wrong(unittest.TestCase):
    def test_books(self):
        for thing in [*ODDS, 0]:
            for call in (mirror_row, bent_row):
                with self.assertRaises(BadBook) as caught:
                    call(thing)
                self.assertIsNone(caught.exception.part)


if __name__ == "__main__":
    unittest.main()

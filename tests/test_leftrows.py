"""Point 95: own rows and mirror rows, told by a thing left out."""

import unittest

from flatrooms.errors import BadBook, BadThing
from flatrooms.flats import above, below
from flatrooms.leftrows import half_number, mirror_row_left, own_row_left
from flatrooms.makers import even_book, table_book, web_book
from flatrooms.mirrors import mirror_row
from flatrooms.ownrows import own_row
from flatrooms.ranks import idle, least_bound, sure
from flatrooms.rows import is_row
from flatrooms.sides import drawn_in, left_out, side_by_side
from tests.flathelp import TWINS, empty_book, order_books, plus, raised, sequence
from tests.samples import CUBE, FANO, ODDS, book_of
from tests.weighthelp import GREAT


def fitting():
    """The books, and things of them, that can be told so."""
    found = []
    for book in order_books() + [table_book(2, CUBE), even_book(5, 8), even_book(6, 8)]:
        if not idle(book) and all(len(lot) != 2 for lot in least_bound(book)):
            found.extend((book, thing) for thing in range(book.size) if thing not in sure(book))
    return found


def plain_halves(book, thing):
    for flat, rank in sequence(book).items():
        both = tuple(sorted({*flat, thing}))
        if thing not in flat and both in sequence(book) and (book.rank - rank) % 2 == 0:
            yield flat, half_number(above(book, both)), (book.rank - rank) // 2


class Half(unittest.TestCase):
    def test_by_hand(self):
        self.assertEqual(half_number(even_book(1, 1)), 1)
        self.assertEqual(half_number(even_book(3, 4)), 2)
        self.assertEqual(half_number(book=even_book(5, 6)), 5)
        self.assertEqual(half_number(even_book(3, 3)), 0)
        self.assertEqual(half_number(even_book(4, 6)), 0)
        self.assertEqual(half_number(even_book(2, 3)), 0)
        self.assertEqual(half_number(empty_book()), 0)
        self.assertEqual(half_number(even_book(0, 4)), 0)
        self.assertEqual(half_number(side_by_side(even_book(0, 1), even_book(3, 4))), 2)

    def test_from_the_definition(self):
        for book in order_books():
            row = own_row(book)
            at = (book.rank - 1) // 2
            told = row[at] if book.rank % 2 and at < len(row) else 0
            self.assertEqual(half_number(book), told)


class Left(unittest.TestCase):
    def test_by_hand(self):
        self.assertEqual(own_row_left(even_book(3, 4), 0), (1, 2))
        self.assertEqual(mirror_row_left(even_book(3, 4), 0), (1, 6, 6, 1))
        self.assertEqual(own_row_left(thing=3, book=even_book(2, 4)), (1,))
        self.assertEqual(mirror_row_left(thing=3, book=even_book(2, 4)), (1, 4, 1))

    def test_they_are_the_rows(self):
        cases = fitting()
        self.assertGreater(len(cases), 250)
        for book, thing in cases:
            for call, plain in ((own_row_left, own_row), (mirror_row_left, mirror_row)):
                found = call(book, thing)
                self.assertTrue(is_row(found))
                self.assertEqual(found, plain(book))

    def test_from_the_definition(self):
        for book, thing in fitting()[::7]:
            own = plus(own_row(left_out(book, thing)), raised(own_row(drawn_in(book, thing)), 1), -1)
            mirror = mirror_row(left_out(book, thing))
            for flat, half, k in plain_halves(book, thing):
                own = plus(own, raised(own_row(below(book, flat)), k), half)
                mirror = plus(mirror, raised(mirror_row(below(book, flat)), k), half)
            self.assertEqual(own_row_left(book, thing), own)
            self.assertEqual(mirror_row_left(book, thing), mirror)


class Wrong(unittest.TestCase):
    def refused(self, error, part, book, thing):
        for call in (own_row_left, mirror_row_left):
            with self.assertRaises(error) as caught:
                call(book, thing)
            self.assertEqual(getattr(caught.exception, "part", None), part)

    def test_things(self):
        for thing in [*ODDS, -1, 4, GREAT, (0,)]:
            self.refused(BadThing, None, even_book(3, 4), thing)
            # Ahead of what is wrong with the book.
            self.refused(BadThing, None, even_book(0, 4), thing)
        self.refused(BadThing, None, empty_book(), 0)

    def test_parts_of_books_in_sequence(self):
        self.refused(BadBook, "idle", book_of(2, (0,)), 0)
        self.refused(BadBook, "idle", even_book(0, 1), 0)
        # An idle thing, twins, and a sure thing.
        self.refused(BadBook, "idle", web_book(4, [(0, 1), (0, 1), (1, 2), (3, 3)]), 2)
        self.refused(BadBook, "twins", web_book(4, [(0, 1), (0, 1), (1, 2)]), 2)
        self.refused(BadBook, "twins", even_book(1, 2), 0)
        self.refused(BadBook, "twins", TWINS, 4)
        self.refused(BadBook, "sure", even_book(3, 3), 1)
        self.refused(BadBook, "sure", even_book(1, 1), 0)
        self.refused(BadBook, "sure", side_by_side(even_book(1, 1), even_book(3, 4)), 0)
        self.assertEqual(own_row_left(side_by_side(even_book(1, 1), even_book(3, 4)), 1), (1, 2))

    def test_books_come_first(self):
        for thing in [*ODDS, 0]:
            self.refused(BadBook, None, thing, None)
            with self.assertRaises(BadBook) as caught:
                half_number(thing)
            self.assertIsNone(caught.exception.part)


if __name__ == "__main__":
    unittest.main()

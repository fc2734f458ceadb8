"""Point 13: turned, left out, drawn in, cut short, side by side, made freer."""

import unittest

from flatrooms.books import Book
from flatrooms.errors import BadBook, BadLot, BadNumber, BadThing, TooMany
from flatrooms.makers import even_book, table_book, web_book
from flatrooms.ranks import free_lots, idle, least_bound, sure
from flatrooms.sides import cut_short, drawn_in, left_out, made_freer, side_by_side, turned
from tests.samples import (CUBE, FANO, ODDS, book_of, freer_books, many_books, plain_closure,
                           plain_rank, relaxable)


def lowered(lots, thing):
    return sorted(tuple(x - (x > thing) for x in lot) for lot in lots)


class Sides(unittest.TestCase):
    def test_turned(self):
        self.assertEqual(turned(book_of(3, (0, 1))), book_of(3, (2,)))
        self.assertEqual(turned(even_book(3, 8)), even_book(5, 8))
        self.assertEqual(turned(Book(0, [()])), Book(0, [()]))
        self.assertEqual(turned(book=even_book(0, 8)), even_book(8, 8))
        for book in many_books():
            other = turned(book)
            self.assertEqual({tuple(sorted(set(range(book.size)) - set(base))) for base in book.bases},
                             set(other.bases))
            self.assertEqual(turned(other), book)
            self.assertEqual((idle(other), sure(other)), (sure(book), idle(book)))

    def test_left_out_and_drawn_in(self):
        for book in many_books():
            free = free_lots(book)
            for thing in range(book.size):
                without = [lot for lot in free if thing not in lot]
                self.assertEqual(free_lots(left_out(book, thing)), lowered(without, thing))
                if thing in idle(book):
                    self.assertEqual(drawn_in(book, thing), left_out(book, thing))
                else:
                    together = [lot for lot in without if plain_rank(book, {*lot, thing}) == len(lot) + 1]
                    self.assertEqual(free_lots(drawn_in(book, thing)), lowered(together, thing))
                self.assertEqual(turned(left_out(book, thing)), drawn_in(turned(book), thing))
                self.assertEqual(left_out(book, thing).size, book.size - 1)

    def test_left_out_and_drawn_in_by_hand(self):
        book = book_of(3, (0, 1), (1, 2))
        self.assertEqual(left_out(book, 0), even_book(2, 2))
        self.assertEqual(left_out(thing=1, book=book), even_book(1, 2))
        self.assertEqual(drawn_in(book, 0), book_of(2, (0,)))
        self.assertEqual(drawn_in(thing=1, book=book), even_book(1, 2))
        self.assertEqual(left_out(even_book(1, 1), 0), Book(0, [()]))
        self.assertEqual(drawn_in(even_book(0, 1), 0), Book(0, [()]))
        self.assertEqual(drawn_in(even_book(4, 8), 7), even_book(3, 7))

    def test_bad_things(self):
        for thing in [*ODDS, -1, 3, 10 ** 20]:
            for made in (left_out, drawn_in):
                with self.assertRaises(BadThing):
                    made(even_book(1, 3), thing)
        for made in (left_out, drawn_in):
            with self.assertRaises(BadThing):
                made(Book(0, [()]), 0)

    def test_cut_short(self):
        self.assertEqual(cut_short(even_book(3, 3)), even_book(2, 3))
        self.assertEqual(cut_short(book=even_book(1, 8)), even_book(0, 8))
        for book in many_books():
            if book.rank == 0:
                with self.assertRaises(BadNumber) as caught:
                    cut_short(book)
                self.assertEqual(caught.exception.part, "rank")
            else:
                self.assertEqual(free_lots(cut_short(book)),
                                 [lot for lot in free_lots(book) if len(lot) < book.rank])

    def test_side_by_side(self):
        one = book_of(2, (0,), (1,))
        other = book_of(3, (0, 2))
        self.assertEqual(side_by_side(one, other), book_of(5, (0, 2, 4), (1, 2, 4)))
        self.assertEqual(side_by_side(other=one, one=other), book_of(5, (0, 2, 3), (0, 2, 4)))
        self.assertEqual(side_by_side(Book(0, [()]), one), one)
        self.assertEqual(side_by_side(even_book(4, 4), even_book(4, 4)), even_book(8, 8))
        books = [book for book in many_books() if book.size <= 4][::3]
        for one in books:
            for other in books:
                both = side_by_side(one, other)
                self.assertEqual(free_lots(both), sorted(
                    lot + tuple(x + one.size for x in more) for lot in free_lots(one) for more in free_lots(other)))
                self.assertEqual(turned(both), side_by_side(turned(one), turned(other)))

    def test_too_many_side_by_side(self):
        for one, other in [(1, 8), (8, 1), (4, 5), (8, 8)]:
            with self.assertRaises(TooMany) as caught:
                side_by_side(even_book(1, one), even_book(1, other))
            self.assertEqual(caught.exception.most, 8)
        self.assertEqual(side_by_side(even_book(1, 8), Book(0, [()])), even_book(1, 8))

    def test_made_freer(self):
        fano = table_book(2, FANO)
        self.assertEqual(len(relaxable(fano)), 7)
        for lot in relaxable(fano):
            freer = made_freer(fano, lot)
            self.assertEqual(freer.bases, tuple(sorted([*fano.bases, lot])))
        self.assertEqual(made_freer(lot=(0, 1), book=book_of(3, (0, 2), (1, 2))), even_book(2, 3))
        self.assertEqual(made_freer(book_of(2, (0,)), (1,)), even_book(1, 2))
        cube = table_book(2, CUBE)
        self.assertEqual(len(relaxable(cube)), 14)
        self.assertEqual(len(made_freer(cube, relaxable(cube)[2]).bases), 57)

    def test_which_lots_are_made_freer(self):
        for book in many_books()[::2] + freer_books():
            if book.size > 6:
                continue
            bound = least_bound(book)
            for mask in range(1 << book.size):
                lot = tuple(x for x in range(book.size) if mask >> x & 1)
                if lot in bound and len(lot) == book.rank and plain_closure(book, lot) == lot:
                    self.assertEqual(made_freer(book, lot).bases, tuple(sorted([*book.bases, lot])))
                else:
                    with self.assertRaises(BadNumber) as caught:
                        made_freer(book, lot)
                    self.assertEqual(caught.exception.part, "lot")

    def test_bad_lots_come_ahead_of_bad_numbers(self):
        for lot in [*ODDS, 0, [0, 1], (1, 0), (0, 3), (0, 0)]:
            with self.assertRaises(BadLot):
                made_freer(even_book(1, 3), lot)

    def test_bad_books_come_first(self):
        book = even_book(1, 8)
        for thing in [*ODDS, 0]:
            calls = [lambda: turned(thing), lambda: left_out(thing, "x"), lambda: drawn_in(thing, "x"),
                     lambda: cut_short(thing), lambda: side_by_side(thing, book),
                     lambda: side_by_side(book, thing), lambda: side_by_side(thing, thing),
                     lambda: made_freer(thing, "x")]
            for call in calls:
                with self.assertRaises(BadBook) as caught:
                    call()
                self.assertIsNone(caught.exception.part)

    def test_the_book_stays(self):
        for book in many_books()[::5]:
            before = (book.size, book.bases, book.rank)
            turned(book)
            for thing in range(book.size):
                left_out(book, thing)
                drawn_in(book, thing)
            if book.rank:
                cut_short(book)
            for lot in relaxable(book):
                made_freer(book, lot)
            self.assertEqual((book.size, book.bases, book.rank), before)


if __name__ == "__main__":
    unittest.main()

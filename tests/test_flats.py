"""Point 15: flats, the books below and above them, and their covers."""

import unittest

from flatrooms.books import Book
from flatrooms.errors import BadBook, BadLot
from flatrooms.flats import above, below, covers, flats
from flatrooms.makers import even_book, table_book
from flatrooms.ranks import closure, free_lots, rank
from tests.samples import FANO, ODDS, book_of, many_books, parts_of, plain_flats, plain_rank


class Flats(unittest.TestCase):
    def test_by_hand(self):
        self.assertEqual(flats(even_book(2, 3)), [[()], [(0,), (1,), (2,)], [(0, 1, 2)]])
        self.assertEqual(flats(book=book_of(3, (0,), (1,))), [[(2,)], [(0, 1, 2)]])
        self.assertEqual(flats(Book(0, [()])), [[()]])
        self.assertEqual(flats(even_book(0, 8)), [[tuple(range(8))]])
        self.assertEqual([len(lots) for lots in flats(even_book(8, 8))], [1, 8, 28, 56, 70, 56, 28, 8, 1])
        fano = flats(table_book(2, FANO))
        self.assertEqual(fano[2], [(0, 1, 3), (0, 2, 4), (0, 5, 6), (1, 2, 5), (1, 4, 6), (2, 3, 6), (3, 4, 5)])

    def test_all_flats_by_rank(self):
        for book in many_books():
            if book.size <= 7:
                known = plain_flats(book)
                self.assertEqual(flats(book), [[flat for flat in known if plain_rank(book, flat) == k]
                                               for k in range(book.rank + 1)])

    def test_two_flats_have_a_flat_in_common(self):
        for book in many_books():
            if book.size <= 6:
                known = [flat for lots in flats(book) for flat in lots]
                for one in known:
                    for other in known:
                        self.assertIn(tuple(x for x in one if x in other), known)

    def test_new_lists(self):
        book = even_book(2, 3)
        found = flats(book)
        found[1].clear()
        found.clear()
        self.assertEqual(len(flats(book)[1]), 3)
        covers(book, ()).clear()
        self.assertEqual(len(covers(book, ())), 3)


class BelowAndAbove(unittest.TestCase):
    def test_by_hand(self):
        book = book_of(4, (0, 2), (0, 3), (2, 3), (0, 1), (1, 2))
        self.assertEqual(flats(book)[1], [(0,), (1, 3), (2,)])
        self.assertEqual(below(book, (1, 3)), even_book(1, 2))
        self.assertEqual(above(book, (1, 3)), even_book(1, 2))
        self.assertEqual(above(flat=(0,), book=book), even_book(1, 3))
        self.assertEqual(below(flat=(0, 1, 2, 3), book=book), book)
        self.assertEqual(above(book, (0, 1, 2, 3)), Book(0, [()]))
        self.assertEqual((below(book, ()), above(book, ())), (Book(0, [()]), book))

    def test_what_is_free(self):
        for book in many_books():
            if book.size > 6:
                continue
            for flat in plain_flats(book):
                self.assertEqual(free_lots(below(book, flat)),
                                 [tuple(flat.index(x) for x in lot) for lot in free_lots(book)
                                  if set(lot) <= set(flat)])
                others = [x for x in range(book.size) if x not in flat]
                together = [lot for lot in parts_of(others)
                            if plain_rank(book, lot + flat) == len(lot) + plain_rank(book, flat)]
                self.assertEqual(free_lots(above(book, flat)),
                                 sorted(tuple(others.index(x) for x in lot) for lot in together))

    def test_great_ones(self):
        book = even_book(4, 8)
        self.assertEqual(below(book, (2, 5)), even_book(2, 2))
        self.assertEqual(above(book, (2, 5)), even_book(2, 6))


class Covers(unittest.TestCase):
    def test_by_hand(self):
        self.assertEqual(covers(even_book(2, 3), ()), [(0,), (1,), (2,)])
        self.assertEqual(covers(flat=(1,), book=even_book(2, 3)), [(0, 1, 2)])
        self.assertEqual(covers(even_book(2, 3), (0, 1, 2)), [])
        self.assertEqual(covers(table_book(2, FANO), (4,)), [(0, 2, 4), (1, 4, 6), (3, 4, 5)])

    def test_flats_of_one_rank_more(self):
        for book in many_books():
            if book.size <= 6:
                known = plain_flats(book)
                for flat in known:
                    found = covers(book, flat)
                    self.assertEqual(found, [other for other in known if set(flat) < set(other)
                                             and plain_rank(book, other) == plain_rank(book, flat) + 1])
                    for thing in set(range(book.size)) - set(flat):
                        self.assertEqual(len([other for other in found if thing in other]), 1)
                        self.assertIn(closure(book, tuple(sorted({*flat, thing}))), found)


class Wrong(unittest.TestCase):
    def test_what_is_no_flat(self):
        book = book_of(4, (0, 2), (0, 3), (2, 3), (0, 1), (1, 2))
        for flat in [*ODDS, 0, [0], [], (1,), (3,), (0, 2), (3, 1), (4,), (0, 0), (1, 2, 3), ("0",)]:
            for made in (below, above, covers):
                with self.assertRaises(BadLot):
                    made(book, flat)
        for made in (below, above, covers):
            with self.assertRaises(BadLot):
                made(even_book(0, 2), ())

    def test_bad_books_come_first(self):
        for thing in [*ODDS, 0]:
            for call in (lambda: flats(thing), lambda: below(thing, "x"), lambda: above(thing, "x"),
                         lambda: covers(thing, "x")):
                with self.assertRaises(BadBook) as caught:
                    call()
                self.assertIsNone(caught.exception.part)

    def test_the_book_stays(self):
        book = even_book(2, 4)
        for call in (below, above, covers):
            call(book, (1,))
        self.assertEqual((book, rank(book, (1, 2, 3))), (even_book(2, 4), 2))


if __name__ == "__main__":
    unittest.main()

"""Point 83: flats of one rank led to greater ones, and what bars this."""

import unittest

from flatrooms.books import Book
from flatrooms.errors import BadBook, BadNumber
from flatrooms.makers import even_book, table_book
from flatrooms.risemaps import rise_bar, rise_map
from tests.flathelp import empty_book, of_rank, order_books, within
from tests.samples import CUBE, FANO, ODDS, book_of
from tests.weighthelp import GREAT


class Maps(unittest.TestCase):
    def judge_map(self, book, low, high, found):
        self.assertIs(type(found), dict)
        self.assertEqual(list(found), of_rank(book, low))
        self.assertLessEqual(set(found.values()), set(of_rank(book, high)))
        self.assertEqual(len(set(found.values())), len(found))
        for flat, end in found.items():
            self.assertTrue(within(flat, end))

    def judge_bar(self, book, low, high, found):
        self.assertIs(type(found), list)
        self.assertEqual(found, sorted(set(found)))
        self.assertLessEqual(set(found), set(of_rank(book, low)))
        ends = [end for end in of_rank(book, high) if any(within(flat, end) for flat in found)]
        self.assertLess(len(ends), len(found))

    def test_by_hand(self):
        book = even_book(3, 3)
        self.judge_map(book, 1, 2, rise_map(book, 1, 2))
        self.assertIsNone(rise_bar(book, 1, 2))
        self.assertIsNone(rise_map(book, 2, 3))
        bar = rise_bar(book, 2, 3)
        self.assertGreaterEqual(len(bar), 2)
        self.judge_bar(book, 2, 3, bar)
        self.assertEqual(rise_map(high=3, low=0, book=book), {(): (0, 1, 2)})
        self.assertIsNone(rise_bar(high=3, low=0, book=book))
        self.assertEqual(rise_map(book, 2, 2), {(0, 1): (0, 1), (0, 2): (0, 2), (1, 2): (1, 2)})
        self.assertEqual(rise_map(empty_book(), 0, 0), {(): ()})
        self.assertIsNone(rise_bar(even_book(0, 2), 0, 0))
        self.assertEqual(rise_map(even_book(0, 2), 0, 0), {(0, 1): (0, 1)})
        self.assertEqual(rise_map(book_of(3, (0,), (1,)), 0, 1), {(2,): (0, 1, 2)})

    def test_one_of_both_for_all_ranks(self):
        barred = 0
        for book in order_books() + [table_book(2, CUBE), even_book(5, 8)]:
            for low in range(book.rank + 1):
                for high in range(low, book.rank + 1):
                    found, bar = rise_map(book, low, high), rise_bar(book, low, high)
                    self.assertEqual((found is None), (bar is not None))
                    if low + high <= book.rank:
                        self.assertIsNone(bar)
                    if bar is None:
                        self.judge_map(book, low, high, found)
                    else:
                        self.judge_bar(book, low, high, bar)
                        barred += 1
        self.assertGreater(barred, 100)

    def test_equal_ones_for_equal_books(self):
        for book in (even_book(3, 5), table_book(2, FANO), even_book(4, 4)):
            twin = Book(book.size, [*book.bases[::-1], book.bases[0]])
            for low, high in ((1, 2), (2, 3), (1, 3)):
                self.assertEqual(rise_map(book, low, high), rise_map(twin, low, high))
                self.assertEqual(rise_bar(book, low, high), rise_bar(twin, low, high))

    def test_what_is_returned_is_new(self):
        book = even_book(3, 3)
        rise_map(book, 1, 2).clear()
        rise_bar(book, 2, 3).clear()
        self.assertEqual(len(rise_map(book, 1, 2)), 3)
        self.assertGreater(len(rise_bar(book, 2, 3)), 1)


class Wrong(unittest.TestCase):
    def test_ranks(self):
        for call in (rise_map, rise_bar):
            for low in [*ODDS, -1, 3, GREAT]:
                for high in (0, 2, None):
                    with self.assertRaises(BadNumber) as caught:
                        call(even_book(2, 3), low, high)
                    self.assertEqual(caught.exception.part, "low")
            for high in [*ODDS, -1, 0, 3, GREAT]:
                with self.assertRaises(BadNumber) as caught:
                    call(even_book(2, 3), 1, high)
                self.assertEqual(caught.exception.part, "high")

    def test_books_come_first(self):
        for thing in [*ODDS, 0]:
            for call in (rise_map, rise_bar):
                with self.assertRaises(BadBook) as caught:
                    call(thing, -1, -1)
                self.assertIsNone(caught.exception.part)


if __name__ == "__main__":
    unittest.main()

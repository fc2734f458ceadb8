"""Point 22: the sweep of a book."""

import unittest
from collections import Counter
from math import comb

from flatrooms.books import Book
from flatrooms.errors import BadBook, BadLot
from flatrooms.makers import even_book, web_book
from flatrooms.sides import turned
from flatrooms.signs import sign_row
from flatrooms.sweeps import sweep
from tests.samples import ODDS, book_of, many_books, orders_of


def plain_sweep(book, order):
    """Straight from the definition."""
    bases = {frozenset(base) for base in book.bases}
    counts = Counter()
    for base in bases:
        inner = [x for x in base if next(y for y in order if base - {x} | {y} in bases) == x]
        outer = [x for x in order if x not in base
                 and next(y for y in order if y in base | {x} and (base | {x}) - {y} in bases) == x]
        counts[len(inner), len(outer)] += 1
    return dict(counts)


class Sweep(unittest.TestCase):
    def test_by_hand(self):
        self.assertEqual(sweep(even_book(2, 3), [0, 1, 2]), {(0, 1): 1, (1, 0): 1, (2, 0): 1})
        self.assertEqual(sweep(order=(1, 0), book=book_of(2, (0,))), {(1, 1): 1})
        self.assertEqual(sweep(Book(0, [()]), []), {(0, 0): 1})
        self.assertEqual(sweep(even_book(8, 8), list(range(8))), {(8, 0): 1})
        self.assertEqual(sweep(even_book(0, 8), list(range(8))), {(0, 8): 1})
        square = web_book(4, [(0, 1), (0, 2), (0, 3), (1, 2), (1, 3), (2, 3)])
        self.assertEqual(sweep(square, list(range(6))),
                         {(0, 1): 2, (0, 2): 3, (0, 3): 1, (1, 0): 2, (1, 1): 4, (2, 0): 3, (3, 0): 1})

    def test_from_the_definition(self):
        for book in many_books():
            for order in orders_of(book, 3):
                before = list(order)
                found = sweep(book, order)
                self.assertEqual(order, before)
                self.assertEqual(found, plain_sweep(book, order))
                self.assertEqual(list(found), sorted(found))
                self.assertNotIn(0, found.values())

    def test_the_same_for_every_order(self):
        for book in many_books():
            first = sweep(book, list(range(book.size)))
            for order in orders_of(book, 6, seed=8):
                self.assertEqual(sweep(book, tuple(order)), first)
            exchanged = sweep(turned(book), list(range(book.size)))
            self.assertEqual({(outer, inner): many for (inner, outer), many in first.items()}, exchanged)
            self.assertEqual(sum(first.values()), len(book.bases))

    def test_the_row_of_signs(self):
        for book in many_books():
            found = sweep(book, list(range(book.size)))
            for k, number in enumerate(sign_row(book)):
                self.assertEqual(abs(number), sum(found.get((i, 0), 0) * comb(i, book.rank - k)
                                                  for i in range(book.rank + 1)))

    def test_wrong_values(self):
        for order in [*ODDS, 0, [], [0, 1], [0, 1, 1], [0, 1, 3], [0, 1, 2, 3], [0, True, 2], "012", [0, 1, None]]:
            with self.assertRaises(BadLot):
                sweep(even_book(2, 3), order)
        for thing in [*ODDS, 0]:
            with self.assertRaises(BadBook) as caught:
                sweep(thing, "no order")
            self.assertIsNone(caught.exception.part)


if __name__ == "__main__":
    unittest.main()

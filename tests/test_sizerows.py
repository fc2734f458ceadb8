"""Point 63: the sizes of the room, told in other ways, and their middle row."""

import unittest
from itertools import permutations

from flatrooms.alike import renamed
from flatrooms.errors import BadThing
from flatrooms.makers import even_book, table_book
from flatrooms.sizerows import middle_row, sizes_by_signs, sizes_by_thing
from flatrooms.towers import room_sizes
from tests.roomhelp import choose
from tests.samples import FANO, ODDS, orders_of, room_books


def falls(order):
    return sum(one > other for one, other in zip(order, order[1:]))


class Sizes(unittest.TestCase):
    def test_by_hand(self):
        self.assertEqual(sizes_by_signs(even_book(3, 3)), (1, 4, 1))
        self.assertEqual(sizes_by_signs(book=even_book(2, 4)), (1, 1))
        self.assertEqual(sizes_by_signs(even_book(1, 1)), (1,))
        self.assertEqual(sizes_by_thing(even_book(3, 3), 0), (1, 4, 1))
        self.assertEqual(sizes_by_thing(thing=3, book=even_book(2, 4)), (1, 1))
        self.assertEqual(sizes_by_thing(even_book(1, 7), 6), (1,))
        self.assertEqual(sizes_by_thing(even_book(2, 2), 0), (1, 1))
        self.assertEqual(sizes_by_signs(table_book(2, FANO)), (1, 8, 1))

    def test_they_are_the_sizes(self):
        for book in room_books(7):
            sizes = room_sizes(book)
            found = sizes_by_signs(book)
            self.assertIs(type(found), tuple)
            self.assertEqual(found, sizes)
            for thing in range(book.size) if book.size > 1 else []:
                found = sizes_by_thing(book, thing)
                self.assertIs(type(found), tuple)
                self.assertEqual(found, sizes)
            self.assertEqual(sizes, sizes[::-1])
            half = sizes[:(book.rank + 1) // 2]
            self.assertEqual(list(half), sorted(half))

    def test_renamed(self):
        for book in room_books(5):
            for order in orders_of(book, 3):
                other = renamed(book, order)
                self.assertEqual(sizes_by_signs(other), room_sizes(book))
                if book.size > 1:
                    self.assertEqual(sizes_by_thing(other, order[0]), room_sizes(book))

    def test_sequences(self):
        for size in range(1, 8):
            row = [0] * size
            for order in permutations(range(size)):
                row[falls(order)] += 1
            self.assertEqual(room_sizes(even_book(size, size)), tuple(row))

    def test_things(self):
        for book in (even_book(1, 2), even_book(3, 3), even_book(3, 4)):
            for thing in [*ODDS, -1, book.size, 10 ** 20]:
                with self.assertRaises(BadThing):
                    sizes_by_thing(book, thing)
        for thing in (0, 1, None):
            with self.assertRaises(BadThing):
                sizes_by_thing(even_book(1, 1), thing)


class Middle(unittest.TestCase):
    def test_by_hand(self):
        self.assertEqual(middle_row(even_book(3, 3)), (1, 2))
        self.assertEqual(middle_row(even_book(2, 4)), (1,))
        self.assertEqual(middle_row(book=even_book(1, 1)), (1,))
        self.assertEqual(middle_row(table_book(2, FANO)), (1, 6))
        self.assertEqual(middle_row(even_book(5, 5)), (1, 22, 16))
        self.assertEqual(middle_row(even_book(7, 7)), (1, 114, 720, 272))

    def test_it_tells_the_sizes(self):
        for book in room_books(7):
            row, d = middle_row(book), book.rank - 1
            self.assertIs(type(row), tuple)
            self.assertEqual(len(row), d // 2 + 1)
            self.assertGreaterEqual(min(row), 0)
            sizes = tuple(sum(number * choose(d - 2 * i, k - i) for i, number in enumerate(row))
                          for k in range(book.rank))
            self.assertEqual(sizes, room_sizes(book))


if __name__ == "__main__":
    unittest.main()

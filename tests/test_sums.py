"""Points 33 and 54: the outer and the inner sum, and powers that die."""

import unittest

from flatrooms.flats import below, flats
from flatrooms.makers import even_book, table_book
from flatrooms.rooms import last_number, multiplied, powered, tidied
from flatrooms.signs import short_row
from flatrooms.sums import inner_sum, outer_sum
from tests.roomhelp import choose, everything, letter
from tests.samples import FANO, plain_flats, plain_rank, room_books


def letters_of(book, wanted):
    return tidied(book, {((flat, 1),): 1 for flat in plain_flats(book) if flat and wanted(flat)})


class Sums(unittest.TestCase):
    def test_by_hand(self):
        book = even_book(2, 3)
        self.assertEqual(inner_sum(book), {(((0, 1, 2), 1),): -2})
        self.assertEqual(outer_sum(book), {(((0, 1, 2), 1),): -1})
        self.assertEqual((last_number(book, inner_sum(book)), last_number(book, outer_sum(book))), (2, 1))
        self.assertEqual(outer_sum(book=even_book(1, 7)), {})
        self.assertEqual(inner_sum(book=even_book(1, 7)), {})
        self.assertEqual(outer_sum(even_book(3, 3)), {(((0, 1, 2), 1),): -1})
        self.assertEqual(inner_sum(even_book(2, 2)), {(((0, 1), 1),): -1})

    def test_any_thing_does_as_well(self):
        for book in room_books(7):
            every = everything(book)
            for thing in range(book.size):
                self.assertEqual(outer_sum(book), letters_of(book, lambda flat: thing in flat and flat != every))
                self.assertEqual(inner_sum(book), letters_of(book, lambda flat: thing not in flat))

    def test_less_the_letter_of_all_things(self):
        for book in room_books(7):
            self.assertEqual(outer_sum(book), tidied(book, {((everything(book), 1),): -1}))

    def test_they_ascend_and_are_new(self):
        for book in room_books(6):
            for made in (outer_sum, inner_sum):
                found = made(book)
                self.assertEqual(list(found), sorted(found))
                self.assertNotIn(0, found.values())
                found.clear()
                self.assertEqual(made(book), made(book))
        self.assertEqual(inner_sum(even_book(2, 3)), {(((0, 1, 2), 1),): -2})


class PowersThatDie(unittest.TestCase):
    def books(self):
        return [book for book in room_books(6) if book.rank < 6] + [even_book(3, 7), table_book(2, FANO)]

    def test_times_a_letter(self):
        for book in self.books():
            outer, inner = outer_sum(book), inner_sum(book)
            powers = [[powered(book, one, many) for many in range(book.rank + 1)] for one in (outer, inner)]
            for lots in flats(book)[1:-1]:
                for flat in lots[:6] + lots[-2:]:
                    rank = plain_rank(book, flat)
                    self.assertEqual(multiplied(book, powers[0][book.rank - rank], letter(*flat)), {})
                    self.assertEqual(multiplied(book, powers[1][rank], letter(*flat)), {})
                    self.assertNotEqual(multiplied(book, powers[0][book.rank - rank - 1], letter(*flat)), {})
                    self.assertNotEqual(multiplied(book, powers[1][rank - 1], letter(*flat)), {})

    def test_last_numbers_of_a_letter(self):
        for book in self.books():
            outer, inner = outer_sum(book), inner_sum(book)
            both = [multiplied(book, powered(book, outer, book.rank - 2 - k), powered(book, inner, k))
                    for k in range(book.rank - 1)]
            for lots in flats(book)[1:-1]:
                for flat in lots[:6] + lots[-2:]:
                    rank = plain_rank(book, flat)
                    for k, product in enumerate(both):
                        number = last_number(book, multiplied(book, letter(*flat), product))
                        self.assertEqual(number, short_row(below(book, flat))[-1] if k == rank - 1 else 0)

    def test_when_both_are_nothing(self):
        for book in self.books():
            outer, inner = outer_sum(book), inner_sum(book)
            for i in range(book.rank + 2):
                for k in range(book.rank + 2):
                    product = multiplied(book, powered(book, outer, i), powered(book, inner, k))
                    self.assertEqual(product == {}, i + k >= book.rank)

    def test_mixed_powers_are_the_short_row(self):
        for book in self.books():
            outer, inner = outer_sum(book), inner_sum(book)
            row = [last_number(book, multiplied(book, powered(book, outer, book.rank - 1 - k),
                                                powered(book, inner, k))) for k in range(book.rank)]
            self.assertEqual(tuple(row), short_row(book))

    def test_by_hand(self):
        book = even_book(3, 3)
        self.assertEqual(multiplied(book, outer_sum(book), letter(0, 1)), {})
        self.assertEqual(multiplied(book, inner_sum(book), letter(0)), {})
        self.assertEqual(last_number(book, multiplied(book, outer_sum(book), letter(0))), 1)
        self.assertEqual(last_number(book, multiplied(book, inner_sum(book), letter(0, 1))), 1)
        self.assertEqual(choose(3, 1), 3)


if __name__ == "__main__":
    unittest.main()

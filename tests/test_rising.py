"""Point 82: how many flats there are of each rank, and steps from one rank to a greater one."""

import copy
import unittest
from random import Random

from flatrooms.errors import BadBook, BadNumber, BadTable
from flatrooms.flatsums import flats_graded
from flatrooms.flats import flats
from flatrooms.makers import even_book, table_book, web_book
from flatrooms.rising import flat_row, is_modular, rise_table
from flatrooms.sides import side_by_side
from tests.flathelp import empty_book, no_sums, of_rank, order_books, plain_join, sequence
from tests.roomhelp import prime_rank
from tests.samples import CUBE, FANO, ODDS, book_of
from tests.weighthelp import GREAT


def chance_rises(book, seed):
    chance = Random(seed)
    return {flat: chance.choice([1, 1, 2, 3, 10, GREAT]) for flat in of_rank(book, 1)}


def pairs_of(book):
    return [(low, high) for low in range(book.rank + 1) for high in range(low, book.rank + 1)]


class FlatRow(unittest.TestCase):
    def test_by_hand(self):
        self.assertEqual(flat_row(even_book(2, 3)), (1, 3, 1))
        self.assertEqual(flat_row(book=even_book(3, 4)), (1, 4, 6, 1))
        self.assertEqual(flat_row(empty_book()), (1,))
        self.assertEqual(flat_row(even_book(0, 8)), (1,))
        self.assertEqual(flat_row(table_book(2, FANO)), (1, 7, 7, 1))
        self.assertEqual(flat_row(even_book(8, 8)), (1, 8, 28, 56, 70, 56, 28, 8, 1))
        self.assertEqual(flat_row(book_of(3, (0,), (1,))), (1, 1))

    def test_from_the_definition(self):
        for book in order_books():
            found = flat_row(book)
            self.assertIs(type(found), tuple)
            self.assertEqual(found, tuple(len(of_rank(book, rank)) for rank in range(book.rank + 1)))
            self.assertEqual(found, tuple(len(lots) for lots in flats(book)))

    def test_never_more_than_of_the_opposite_rank(self):
        for book in order_books():
            row = flat_row(book)
            for low, high in pairs_of(book):
                if low + high <= book.rank:
                    self.assertLessEqual(row[low], row[high])


class Tables(unittest.TestCase):
    def test_by_hand(self):
        book, ones = even_book(3, 3), {(0,): 1, (1,): 1, (2,): 1}
        self.assertEqual(rise_table(book, ones, 1, 2), ((1, 1, 0), (1, 0, 1), (0, 1, 1)))
        self.assertEqual(rise_table(book, ones, 0, 3), ((6,),))
        self.assertEqual(rise_table(book, ones, 2, 2), ((1, 0, 0), (0, 1, 0), (0, 0, 1)))
        weights = {(0,): 2, (2,): 5, (1,): 3}
        self.assertEqual(rise_table(book, weights, 0, 1), ((2, 3, 5),))
        self.assertEqual(rise_table(high=2, low=1, weights=weights, book=book), ((3, 5, 0), (2, 0, 5), (0, 2, 3)))
        self.assertEqual(rise_table(even_book(2, 3), weights, 1, 2), ((8,), (7,), (5,)))
        self.assertEqual(rise_table(even_book(2, 3), weights, 0, 2), ((2 * 8 + 3 * 7 + 5 * 5,),))
        self.assertEqual(rise_table(empty_book(), {}, 0, 0), ((1,),))
        self.assertEqual(rise_table(even_book(0, 2), {}, 0, 0), ((1,),))
        self.assertEqual(rise_table(even_book(1, 3), {(0, 1, 2): GREAT}, 0, 1), ((GREAT,),))
        self.assertEqual(rise_table(book_of(3, (0,), (1,)), {(0, 1, 2): 7}, 0, 1), ((7,),))

    def test_from_the_definition(self):
        for seed, book in enumerate(order_books()):
            if len(sequence(book)) > 30:
                continue
            weights = chance_rises(book, seed)
            before = copy.deepcopy(weights)
            for low, high in pairs_of(book):
                rows = []
                for flat in of_rank(book, low):
                    led = {flat: 1}
                    for _ in range(high - low):
                        led = flats_graded(book, led, weights)
                    rows.append(tuple(led.get(end, 0) for end in of_rank(book, high)))
                self.assertEqual(rise_table(book, weights, low, high), tuple(rows))
            self.assertEqual(weights, before)

    def test_the_rows_are_free_of_one_another(self):
        for seed, book in enumerate(order_books() + [table_book(2, CUBE), even_book(5, 8)]):
            weights = chance_rises(book, seed)
            for low, high in pairs_of(book):
                if low + high <= book.rank:
                    rows = rise_table(book, weights, low, high)
                    self.assertEqual(prime_rank(rows), len(of_rank(book, low)))


class Modular(unittest.TestCase):
    def test_by_hand(self):
        self.assertTrue(is_modular(table_book(2, FANO)))
        self.assertTrue(is_modular(even_book(4, 4)))
        self.assertTrue(is_modular(book=even_book(2, 6)))
        self.assertTrue(is_modular(empty_book()))
        self.assertTrue(is_modular(even_book(0, 3)))
        self.assertTrue(is_modular(side_by_side(even_book(2, 4), even_book(1, 1))))
        self.assertFalse(is_modular(even_book(3, 4)))
        self.assertFalse(is_modular(table_book(2, CUBE)))
        self.assertFalse(is_modular(web_book(4, [(0, 1), (0, 2), (0, 3), (1, 2), (1, 3), (2, 3)])))

    def test_from_the_definition_and_by_numbers(self):
        told = []
        for book in order_books():
            ranks = sequence(book)
            found = is_modular(book)
            self.assertIs(type(found), bool)
            if len(ranks) <= 40:
                self.assertEqual(found, all(
                    ranks[one] + ranks[other] == ranks[plain_join(book, one, other)]
                    + ranks[tuple(sorted(set(one) & set(other)))] for one in ranks for other in ranks))
            if book.rank > 0:
                row = flat_row(book)
                self.assertEqual(found, row[1] == row[book.rank - 1])
            told.append(found)
        self.assertGreater(min(told.count(True), told.count(False)), 20)


class Wrong(unittest.TestCase):
    def test_weights(self):
        book = even_book(2, 3)
        ones = {(0,): 1, (1,): 1, (2,): 1}
        wrong = no_sums(book) + [{}, {(0,): 1, (1,): 1}, {**ones, (): 1}, {**ones, (0, 1, 2): 1}, {**ones, None: 1}]
        wrong += [{**ones, (1,): number} for number in (0, -1, -GREAT, True, None, 1.0, "1")]
        wrong += [{(0,): 1, (True,): 1, (2,): 1}, [ones], list(ones)]
        for weights in wrong:
            # The weights come ahead of the ranks.
            for low, high in ((0, 1), (None, None), (1, 0)):
                with self.assertRaises(BadTable):
                    rise_table(book, weights, low, high)
        with self.assertRaises(BadTable):
            rise_table(empty_book(), {(): 1}, 0, 0)
        with self.assertRaises(BadTable):
            rise_table(even_book(0, 2), {(0, 1): 1}, 0, 0)

    def test_ranks(self):
        book, ones = even_book(2, 3), {(0,): 1, (1,): 1, (2,): 1}
        for low in [*ODDS, -1, 3, GREAT]:
            for high in (0, 2, None):
                with self.assertRaises(BadNumber) as caught:
                    rise_table(book, ones, low, high)
                self.assertEqual(caught.exception.part, "low")
        for high in [*ODDS, -1, 0, 3, GREAT]:
            with self.assertRaises(BadNumber) as caught:
                rise_table(book, ones, 1, high)
            self.assertEqual(caught.exception.part, "high")

    def test_books_come_first(self):
        for thing in [*ODDS, 0]:
            for call in (lambda: flat_row(thing), lambda: is_modular(thing), lambda: rise_table(thing, 1, -1, -1)):
                with self.assertRaises(BadBook) as caught:
                    call()
                self.assertIsNone(caught.exception.part)


if __name__ == "__main__":
    unittest.main()

"""Point 52: the volume of weights, and its rows."""

import copy
import unittest
from itertools import permutations
from math import factorial, prod

from flatrooms.alike import renamed
from flatrooms.errors import BadWeights
from flatrooms.makers import even_book, table_book
from flatrooms.rooms import last_number, powered
from flatrooms.signs import short_row
from flatrooms.towernumbers import tower_number
from flatrooms.volumes import volume, volume_rows
from flatrooms.weights import bends, weight_sum
from tests.roomhelp import all_towers
from tests.samples import FANO, ODDS, orders_of, room_books
from tests.weighthelp import (GREAT, NO_WEIGHTS, bent_weights, chance_weights, even_weights, inner_weights,
                              outer_weights, rank_weights, same_weights, weak_weights)


def sequences(tower):
    letters = [flat for flat, times in tower for _ in range(times)]
    return len(set(permutations(letters)))


def from_rows(rows, weights):
    return sum(number * prod(weights[flat] ** times for flat, times in tower) for tower, number in rows.items())


class Rows(unittest.TestCase):
    def test_by_hand(self):
        self.assertEqual(volume_rows(even_book(1, 4)), {(): 1})
        self.assertEqual(volume_rows(book=even_book(2, 3)),
                         {(((0,), 1),): 1, (((0, 1, 2), 1),): -1, (((1,), 1),): 1, (((2,), 1),): 1})
        three = volume_rows(even_book(3, 3))
        self.assertEqual(three[(((0,), 1), ((0, 1), 1))], 2)
        self.assertEqual(three[(((0,), 2),)], -1)
        self.assertEqual(three[(((0,), 1), ((0, 1, 2), 1))], -2)
        self.assertNotIn((((0, 1), 1), ((0, 1, 2), 1)), three)
        self.assertEqual(len(three), 16)

    def test_from_tower_numbers(self):
        for book in room_books(5):
            rows = {tower: tower_number(book, tower) * sequences(tower)
                    for tower in sorted(all_towers(book, book.rank - 1))}
            found = volume_rows(book)
            self.assertEqual(found, {tower: number for tower, number in rows.items() if number})
            self.assertEqual(list(found), sorted(found))
            found.clear()
            self.assertEqual(len(volume_rows(book)), sum(number != 0 for number in rows.values()))


class Volumes(unittest.TestCase):
    def test_by_hand(self):
        book = even_book(2, 3)
        self.assertEqual(volume(book, even_weights(3)), 6)
        self.assertEqual(volume(weights=same_weights(3, GREAT), book=book), 2 * GREAT)
        self.assertEqual(volume(even_book(1, 3), chance_weights(3, 5)), 1)
        self.assertEqual(volume(even_book(1, 3), same_weights(3, 0)), 1)
        self.assertEqual(volume(even_book(3, 3), even_weights(3)), 24)
        self.assertEqual(volume(even_book(3, 3), same_weights(3, 0)), 0)

    def test_from_powers(self):
        for seed, book in enumerate(room_books(6)):
            weights = chance_weights(book.size, seed)
            before = copy.deepcopy(weights)
            power = powered(book, weight_sum(book, weights), book.rank - 1)
            self.assertEqual(volume(book, weights), last_number(book, power))
            self.assertEqual(weights, before)

    def test_from_rows(self):
        for seed, book in enumerate(room_books(6) + [table_book(2, FANO), even_book(4, 7)]):
            rows = volume_rows(book)
            for make in (bent_weights, weak_weights, chance_weights):
                weights = make(book.size, seed)
                self.assertEqual(volume(book, weights), from_rows(rows, weights))

    def test_weights_that_bend(self):
        for seed, book in enumerate(room_books(6) + [table_book(2, FANO), even_book(4, 7)]):
            for weights in (bent_weights(book.size, seed), even_weights(book.size)):
                self.assertTrue(bends(book.size, weights, 1))
                self.assertGreater(volume(book, weights), 0)
            for weights in (weak_weights(book.size, seed), rank_weights(book), same_weights(book.size, 1),
                            outer_weights(book.size), inner_weights(book.size)):
                self.assertTrue(bends(book.size, weights, 0))
                self.assertGreaterEqual(volume(book, weights), 0)
            self.assertEqual(volume(book, outer_weights(book.size)), 1)
            self.assertEqual(volume(book, inner_weights(book.size)), short_row(book)[-1])

    def test_weights_taken_often(self):
        for seed, book in enumerate(room_books(5)):
            weights = chance_weights(book.size, seed)
            for times in (-3, 0, 2, GREAT):
                more = {lot: times * weights[lot] for lot in weights}
                self.assertEqual(volume(book, more), times ** (book.rank - 1) * volume(book, weights))

    def test_renamed(self):
        for seed, book in enumerate(room_books(4)):
            weights = chance_weights(book.size, seed)
            for order in orders_of(book, 3):
                moved = {tuple(sorted(order[x] for x in lot)): weights[lot] for lot in weights}
                self.assertEqual(volume(renamed(book, order), moved), volume(book, weights))

    def test_all_things_free(self):
        # Weights that tell the numbers of sequences: the volume of len(lot) * (size - len(lot)).
        for size in range(1, 7):
            self.assertEqual(volume(even_book(size, size), even_weights(size)),
                             factorial(size - 1) * (2 ** (size - 1)) * size ** (size - 2) if size > 1 else 1)

    def test_no_weights(self):
        for weights in [*ODDS, *NO_WEIGHTS, even_weights(1), even_weights(3)]:
            with self.assertRaises(BadWeights):
                volume(even_book(2, 2), weights)


if __name__ == "__main__":
    unittest.main()

"""Point 53: the second slopes of the volume."""

import copy
import unittest

from flatrooms.errors import BadNumber, BadWeights
from flatrooms.makers import even_book, table_book
from flatrooms.rooms import last_number, multiplied, powered
from flatrooms.slopes import second_slopes
from flatrooms.tables import sign_counts
from flatrooms.towers import room_sizes
from flatrooms.volumes import volume
from flatrooms.weights import bends, weight_sum
from tests.roomhelp import everything, letter
from tests.samples import FANO, ODDS, plain_flats, room_books
from tests.weighthelp import (GREAT, NO_WEIGHTS, bent_weights, chance_weights, even_weights, inner_weights,
                              outer_weights, rank_weights, same_weights, weak_weights)


def flats_of(book):
    """All flats with letters, but that of all things, ascending."""
    return [flat for flat in plain_flats(book) if flat and flat != everything(book)]


def deep_books(most):
    return [book for book in room_books(most) if book.rank > 2]


class Slopes(unittest.TestCase):
    def test_by_hand(self):
        book = even_book(3, 3)
        self.assertEqual(flats_of(book), [(0,), (0, 1), (0, 2), (1,), (1, 2), (2,)])
        table = ((-1, 1, 1, 0, 0, 0), (1, -1, 0, 1, 0, 0), (1, 0, -1, 0, 0, 1),
                 (0, 1, 0, -1, 1, 0), (0, 0, 0, 1, -1, 1), (0, 0, 1, 0, 1, -1))
        self.assertEqual(second_slopes(book, even_weights(3)), table)
        self.assertEqual(second_slopes(weights=same_weights(3, 0), book=book), table)
        self.assertEqual(second_slopes(book, chance_weights(3, 1)), table)

    def test_from_last_numbers(self):
        for seed, book in enumerate(deep_books(6)):
            weights = chance_weights(book.size, seed)
            before = copy.deepcopy(weights)
            table = second_slopes(book, weights)
            self.assertEqual(weights, before)
            rest = powered(book, weight_sum(book, weights), book.rank - 3)
            flats = flats_of(book)
            self.assertIs(type(table), tuple)
            self.assertEqual((len(table), {len(row) for row in table}), (len(flats), {len(flats)}))
            for one, row in list(zip(flats, table))[::4]:
                self.assertIs(type(row), tuple)
                for other, number in list(zip(flats, row))[::3]:
                    both = multiplied(book, letter(*one), letter(*other))
                    self.assertEqual(number, last_number(book, multiplied(book, both, rest)))
            self.assertEqual(tuple(zip(*table)), table)

    def test_slopes_of_the_volume(self):
        # (rank - 1) * (rank - 2) times it is how the volume changes with two weights.
        for seed, book in enumerate(deep_books(5)):
            weights = chance_weights(book.size, seed)
            weights = {lot: weights[lot] if lot != everything(book) else 0 for lot in weights}
            table = second_slopes(book, weights)
            flats = flats_of(book)
            total = sum(weights[one] * number * weights[other]
                        for one, row in zip(flats, table) for other, number in zip(flats, row))
            self.assertEqual(total, volume(book, weights))

    def test_signs(self):
        for seed, book in enumerate(deep_books(6) + [table_book(2, FANO), even_book(3, 7)]):
            for weights in (bent_weights(book.size, seed), even_weights(book.size)):
                self.assertTrue(bends(book.size, weights, 1))
                middle = room_sizes(book)[1]
                found = sign_counts(second_slopes(book, weights))
                self.assertEqual(found, (1, middle - 1, len(flats_of(book)) - middle))

    def test_signs_of_weights_that_bend_weakly(self):
        for seed, book in enumerate(deep_books(6) + [table_book(2, FANO)]):
            for weights in (weak_weights(book.size, seed), rank_weights(book), outer_weights(book.size),
                            inner_weights(book.size), same_weights(book.size, 0)):
                self.assertTrue(bends(book.size, weights, 0))
                plus = sign_counts(second_slopes(book, weights))[0]
                self.assertLessEqual(plus, 1)
                if volume(book, weights) > 0:
                    self.assertEqual(plus, 1)


class Wrong(unittest.TestCase):
    def test_small_ranks_come_first(self):
        for book in (even_book(1, 1), even_book(1, 7), even_book(2, 2), even_book(2, 7)):
            for weights in [*ODDS, even_weights(book.size)]:
                with self.assertRaises(BadNumber) as caught:
                    second_slopes(book, weights)
                self.assertEqual(caught.exception.part, "rank")

    def test_no_weights(self):
        for weights in [*ODDS, *NO_WEIGHTS, even_weights(2), even_weights(4), {**even_weights(3), (): GREAT}]:
            with self.assertRaises(BadWeights):
                second_slopes(even_book(3, 3), weights)


if __name__ == "__main__":
    unittest.main()

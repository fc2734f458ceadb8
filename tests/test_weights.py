"""Point 41: weights, whether they bend, and their sums."""

import copy
import unittest
from random import Random

from flatrooms.errors import BadNumber, BadWeights
from flatrooms.makers import even_book, table_book
from flatrooms.rooms import tidied
from flatrooms.sums import inner_sum, outer_sum
from flatrooms.weights import bends, is_weights, weight_sum
from tests.samples import FANO, ODDS, plain_flats, plain_rank, room_books
from tests.weighthelp import (GREAT, NO_WEIGHTS, bent_weights, both_weights, chance_weights, even_weights,
                              inner_weights, lots_of, outer_weights, plain_bends, rank_weights, same_weights,
                              thing_weights, weak_weights)


class Are(unittest.TestCase):
    def test_by_hand(self):
        self.assertIs(is_weights(0, {(): 0}), True)
        self.assertIs(is_weights(0, {}), False)
        self.assertIs(is_weights(0, {(): 1}), False)
        self.assertIs(is_weights(0, {(): False}), False)
        self.assertIs(is_weights(thing={(): 0, (0,): -5}, size=1), True)
        self.assertIs(is_weights(2, {(0, 1): 1, (1,): 0, (0,): GREAT, (): 0}), True)
        self.assertIs(is_weights(1, {(): 0}), False)
        self.assertIs(is_weights(0, {(): 0, (0,): 1}), False)

    def test_each_size(self):
        for size in range(9):
            for weights in (even_weights(size), same_weights(size, GREAT), same_weights(size, -GREAT)):
                self.assertIs(is_weights(size, weights), True)
                for other in range(9):
                    self.assertIs(is_weights(other, weights), other == size)
                self.assertIs(is_weights(size, {**weights, (): 1}), False)
                self.assertIs(is_weights(size, {**weights, tuple(range(size + 1)): 1}), False)
                self.assertIs(is_weights(size, {lot: weights[lot] for lot in list(weights)[1:]}), False)

    def test_any_value(self):
        for thing in [*ODDS, *NO_WEIGHTS, [], [((), 0)], list(even_weights(2)), 0]:
            self.assertIs(is_weights(2, thing), False)
        for thing in ODDS:
            self.assertIs(is_weights(0, thing), False)

    def test_sizes(self):
        for size in [*ODDS, -1, 9, GREAT]:
            for call in (lambda: is_weights(size, None), lambda: bends(size, None, None)):
                with self.assertRaises(BadNumber) as caught:
                    call()
                self.assertEqual(caught.exception.part, "size")


class Bends(unittest.TestCase):
    def test_by_hand(self):
        weights = {(): 0, (0,): 3, (1,): 4, (0, 1): 5}
        self.assertEqual([bends(2, weights, amount) for amount in (-GREAT, 0, 1, 2, 3, GREAT)],
                         [True, True, True, True, False, False])
        self.assertIs(bends(amount=2, weights=weights, size=2), True)
        self.assertIs(bends(2, {(): 0, (0,): 0, (1,): 0, (0, 1): 0}, 0), True)
        self.assertIs(bends(2, {(): 0, (0,): 0, (1,): 0, (0, 1): 0}, 1), False)
        self.assertIs(bends(2, {(): 0, (0,): 0, (1,): 0, (0, 1): 1}, 0), False)
        self.assertIs(bends(2, {(): 0, (0,): 0, (1,): 0, (0, 1): 1}, -1), True)

    def test_less_than_two_things_bend_always(self):
        for weights in ({(): 0}, {(): 0, (0,): -7}, {(): 0, (0,): GREAT}):
            for amount in (-3, 0, 1, GREAT):
                self.assertIs(bends(len(weights) // 2, weights, amount), True)

    def test_even_weights(self):
        for size in range(2, 9):
            for times in (1, 2, GREAT):
                weights = even_weights(size, times)
                self.assertEqual([bends(size, weights, amount) for amount in (0, 1, 2 * times, 2 * times + 1)],
                                 [True, True, True, False])
            self.assertIs(bends(size, even_weights(size, 0), 0), True)
            self.assertIs(bends(size, even_weights(size, -1), 0), False)

    def test_from_the_definition(self):
        chance = Random(21)
        for size in range(6):
            for seed in range(12):
                weights = chance.choice([bent_weights, weak_weights, chance_weights])(size, seed)
                if seed % 3 == 0:
                    weights[chance.choice(list(weights)[1:] or [()])] += 1 if size else 0
                for amount in (-9, -1, 0, 1, 2, 5):
                    self.assertIs(bends(size, weights, amount), plain_bends(weights, amount))

    def test_far_lots_count_too(self):
        # Neighbouring lots bend by 1 each, but lots that are far apart have to bend by just so much.
        weights = {lot: 2 * len(lot) - (len(lot) > 2) for lot in lots_of(4)}
        self.assertEqual(plain_bends(weights, 0), bends(4, weights, 0))
        for size in (3, 4, 5):
            weights = even_weights(size)
            weights[tuple(range(size))] += 2
            self.assertIs(bends(size, weights, 1), plain_bends(weights, 1))

    def test_added_lot_by_lot(self):
        for size in range(1, 7):
            for seed in range(6):
                one, other, weak = bent_weights(size, seed), bent_weights(size, seed + 50), weak_weights(size, seed)
                self.assertTrue(bends(size, one, 1) and bends(size, other, 1) and bends(size, weak, 0))
                self.assertTrue(bends(size, both_weights(one, other), 1))
                self.assertTrue(bends(size, both_weights(one, other), 2) or size < 2)
                self.assertTrue(bends(size, both_weights(one, weak), 1))
                numbers = [GREAT, -5, 0, 7, -GREAT, 1][:size]
                for amount in (0, 1, 4):
                    self.assertIs(bends(size, both_weights(one, thing_weights(numbers)), amount),
                                  bends(size, one, amount))

    def test_ranks_bend_weakly(self):
        for book in room_books(5):
            self.assertTrue(bends(book.size, rank_weights(book), 0))
            self.assertTrue(bends(book.size, outer_weights(book.size), 0))
            self.assertTrue(bends(book.size, inner_weights(book.size), 0))

    def test_wrong_inputs_and_their_sequence(self):
        for weights in [*ODDS, *NO_WEIGHTS]:
            with self.assertRaises(BadWeights):
                bends(2, weights, None)
        for amount in ODDS:
            with self.assertRaises(BadNumber) as caught:
                bends(2, even_weights(2), amount)
            self.assertEqual(caught.exception.part, "amount")
        for size in (-1, 9, True, "2"):
            with self.assertRaises(BadNumber) as caught:
                bends(size, even_weights(2), None)
            self.assertEqual(caught.exception.part, "size")

    def test_nothing_is_changed(self):
        weights = bent_weights(4, 1)
        before = copy.deepcopy(weights)
        bends(4, weights, 1)
        is_weights(4, weights)
        weight_sum(even_book(3, 4), weights)
        self.assertEqual((weights, list(weights)), (before, list(before)))


class Sums(unittest.TestCase):
    def test_by_hand(self):
        self.assertEqual(weight_sum(even_book(2, 3), even_weights(3)), {(((0, 1, 2), 1),): -6})
        self.assertEqual(weight_sum(weights=same_weights(3, 1), book=even_book(2, 3)), {(((0, 1, 2), 1),): -2})
        self.assertEqual(weight_sum(even_book(2, 3), same_weights(3, 0)), {})
        self.assertEqual(weight_sum(even_book(1, 2), chance_weights(2, 3)), {})
        self.assertEqual(weight_sum(even_book(2, 2), {(): 0, (0,): GREAT, (1,): 0, (0, 1): 1}),
                         {(((0, 1), 1),): 1 - GREAT})

    def test_from_the_letters(self):
        for book in room_books(6) + [table_book(2, FANO), even_book(3, 7)]:
            for seed, make in enumerate((bent_weights, weak_weights, chance_weights)):
                weights = make(book.size, seed)
                found = weight_sum(book, weights)
                letters = {((flat, 1),): weights[flat] for flat in plain_flats(book) if plain_rank(book, flat)}
                self.assertEqual(found, tidied(book, letters))
                self.assertEqual(list(found), sorted(found))
                self.assertNotIn(0, found.values())

    def test_numbers_of_things_change_nothing(self):
        for book in room_books(6) + [table_book(2, FANO)]:
            weights = chance_weights(book.size, 4)
            for numbers in ([1, -2, 3, GREAT, -5, 0, 7], [0, 0, 0, 0, 0, 0, -1]):
                more = both_weights(weights, thing_weights(numbers[:book.size]))
                self.assertEqual(weight_sum(book, more), weight_sum(book, weights))

    def test_outer_and_inner(self):
        for book in room_books(6):
            self.assertEqual(weight_sum(book, outer_weights(book.size)), outer_sum(book))
            self.assertEqual(weight_sum(book, inner_weights(book.size)), inner_sum(book))

    def test_no_weights(self):
        for weights in [*ODDS, *NO_WEIGHTS, even_weights(1), even_weights(3)]:
            with self.assertRaises(BadWeights):
                weight_sum(even_book(1, 2), weights)

    def test_new_dicts(self):
        weight_sum(even_book(2, 3), even_weights(3)).clear()
        self.assertEqual(len(weight_sum(even_book(2, 3), even_weights(3))), 1)


if __name__ == "__main__":
    unittest.main()

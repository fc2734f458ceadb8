"""Point 50: mixed powers of two sums, and the chains that count them."""

import copy
import unittest

from flatrooms.alike import renamed
from flatrooms.errors import BadNumber, BadWeights
from flatrooms.flats import flats
from flatrooms.makers import even_book, table_book
from flatrooms.mixes import falling_chains, mixed_numbers, mixed_volumes
from flatrooms.rooms import last_number, multiplied, powered
from flatrooms.signs import short_row, sign_row
from flatrooms.sums import inner_sum, outer_sum
from flatrooms.weights import bends, weight_sum
from tests.samples import CUBE, FANO, ODDS, many_books, orders_of, plain_flats, plain_rank, room_books
from tests.weighthelp import (GREAT, NO_WEIGHTS, bent_weights, both_weights, chance_weights, even_weights,
                              inner_weights, outer_weights, rank_weights, same_weights, thing_weights, weak_weights)


def squares_are_enough(row):
    return all(row[k] ** 2 >= row[k - 1] * row[k + 1] for k in range(1, len(row) - 1))


def plain_chains(book, length):
    found = [()]
    flat_list = plain_flats(book)
    for rank in range(1, length + 1):
        found = [(*chain, flat) for chain in found for flat in flat_list
                 if plain_rank(book, flat) == rank and 0 not in flat
                 and (not chain or set(chain[-1]) < set(flat) and min(flat) < min(chain[-1]))]
    return sorted(found)


class Numbers(unittest.TestCase):
    def test_by_hand(self):
        self.assertEqual(mixed_numbers(even_book(2, 3)), (1, 2))
        self.assertEqual(mixed_numbers(book=even_book(1, 7)), (1,))
        self.assertEqual(mixed_numbers(even_book(1, 1)), (1,))
        self.assertEqual(mixed_numbers(table_book(2, FANO)), (1, 6, 8))
        self.assertEqual(mixed_numbers(even_book(3, 3)), (1, 2, 1))

    def test_from_powers(self):
        for book in room_books(6):
            outer, inner, d = outer_sum(book), inner_sum(book), book.rank - 1
            row = tuple(last_number(book, multiplied(book, powered(book, outer, d - k), powered(book, inner, k)))
                        for k in range(book.rank))
            found = mixed_numbers(book)
            self.assertIs(type(found), tuple)
            self.assertEqual(found, row)

    def test_the_short_row(self):
        for book in room_books(7):
            self.assertEqual(mixed_numbers(book), short_row(book))
            row = tuple(len(falling_chains(book, length)) for length in range(book.rank))
            self.assertEqual(row, short_row(book))

    def test_renamed(self):
        for book in room_books(5):
            row = mixed_numbers(book)
            for order in orders_of(book, 4):
                other = renamed(book, order)
                self.assertEqual(mixed_numbers(other), row)
                self.assertEqual(tuple(len(falling_chains(other, length)) for length in range(book.rank)), row)

    def test_squares(self):
        for book in many_books() + [table_book(2, CUBE)]:
            self.assertTrue(squares_are_enough(sign_row(book)))
            if sign_row(book)[0] and book.rank:
                self.assertTrue(squares_are_enough(short_row(book)))


class Chains(unittest.TestCase):
    def test_by_hand(self):
        book = even_book(3, 3)
        self.assertEqual(falling_chains(book, 0), [()])
        self.assertEqual(falling_chains(book, 1), [((1,),), ((2,),)])
        self.assertEqual(falling_chains(length=2, book=book), [((2,), (1, 2))])
        self.assertEqual(falling_chains(even_book(2, 3), 1), [((1,),), ((2,),)])
        self.assertEqual(falling_chains(even_book(1, 1), 0), [()])
        self.assertEqual(falling_chains(even_book(3, 4), 2), [((2,), (1, 2)), ((3,), (1, 3)), ((3,), (2, 3))])

    def test_from_the_definition(self):
        for book in room_books(6) + [table_book(2, FANO)]:
            for length in range(book.rank):
                found = falling_chains(book, length)
                self.assertIs(type(found), list)
                self.assertEqual(found, plain_chains(book, length))
                found.clear()
            self.assertEqual(falling_chains(book, 0), [()])

    def test_no_chain_has_thing_zero(self):
        for book in room_books(5):
            for length in range(1, book.rank):
                for chain in falling_chains(book, length):
                    self.assertTrue(all(0 not in flat for flat in chain))
                    self.assertEqual([flat in flats(book)[k + 1] for k, flat in enumerate(chain)], [True] * length)

    def test_lengths(self):
        for book in (even_book(1, 1), even_book(2, 3), even_book(3, 3)):
            for length in [*ODDS, -1, book.rank, book.rank + 1, GREAT]:
                with self.assertRaises(BadNumber) as caught:
                    falling_chains(book, length)
                self.assertEqual(caught.exception.part, "length")


class Volumes(unittest.TestCase):
    def test_by_hand(self):
        book = even_book(2, 3)
        self.assertEqual(mixed_volumes(book, even_weights(3), same_weights(3, 1)), (6, 2))
        self.assertEqual(mixed_volumes(other=even_weights(3), one=same_weights(3, 0), book=book), (0, 6))
        self.assertEqual(mixed_volumes(even_book(1, 2), chance_weights(2, 1), chance_weights(2, 2)), (1,))
        three = even_book(3, 3)
        self.assertEqual(mixed_volumes(three, even_weights(3), even_weights(3)), (24, 24, 24))
        self.assertEqual(mixed_volumes(three, even_weights(3, -1), even_weights(3)), (24, -24, 24))

    def test_from_powers(self):
        for seed, book in enumerate(room_books(6) + [table_book(2, FANO)]):
            if book.rank > 5:
                continue
            for make in (bent_weights, weak_weights, chance_weights):
                one, other, d = make(book.size, seed), chance_weights(book.size, seed + 9), book.rank - 1
                before = copy.deepcopy((one, other))
                found = mixed_volumes(book, one, other)
                self.assertEqual((one, other), before)
                self.assertIs(type(found), tuple)
                first, second = weight_sum(book, one), weight_sum(book, other)
                self.assertEqual(found, tuple(
                    last_number(book, multiplied(book, powered(book, first, d - k), powered(book, second, k)))
                    for k in range(book.rank)))
                self.assertEqual(mixed_volumes(book, other, one), found[::-1])

    def test_weights_that_bend(self):
        for seed, book in enumerate(room_books(6) + [table_book(2, FANO), even_book(4, 7)]):
            size = book.size
            bent = [bent_weights(size, seed), even_weights(size)]
            weak = [weak_weights(size, seed), rank_weights(book), outer_weights(size), inner_weights(size),
                    same_weights(size, 1), same_weights(size, 0)]
            for one in [*bent, *(weak if size < 6 else weak[:2])]:
                self.assertTrue(bends(size, one, 0))
                for other in [bent[0], weak[0], one] if size < 6 else [bent[0], weak[0]]:
                    row = mixed_volumes(book, one, other)
                    self.assertGreaterEqual(min(row), 0)
                    self.assertTrue(squares_are_enough(row))
                    if one in bent and other in bent:
                        self.assertGreater(min(row), 0)

    def test_outer_and_inner(self):
        for book in room_books(6):
            outer, inner = outer_weights(book.size), inner_weights(book.size)
            self.assertEqual(mixed_volumes(book, outer, inner), short_row(book))

    def test_numbers_of_things_change_nothing(self):
        for seed, book in enumerate(room_books(5)):
            one, other = chance_weights(book.size, seed), bent_weights(book.size, seed)
            row = mixed_volumes(book, one, other)
            more = thing_weights([3, -GREAT, 0, 5, GREAT][:book.size])
            self.assertEqual(mixed_volumes(book, both_weights(one, more), other), row)
            self.assertEqual(mixed_volumes(book, one, both_weights(other, more, -2)), row)

    def test_weights_that_do_not_bend_may_fail(self):
        self.assertFalse(squares_are_enough(mixed_volumes(
            even_book(3, 3), {**same_weights(3, 0), (0,): 1}, {**same_weights(3, 0), (1,): 1})))

    def test_no_weights(self):
        book = even_book(2, 2)
        for weights in [*ODDS, *NO_WEIGHTS, even_weights(1), even_weights(3)]:
            for call in (lambda: mixed_volumes(book, weights, even_weights(2)),
                         lambda: mixed_volumes(book, even_weights(2), weights),
                         lambda: mixed_volumes(book, weights, None)):
                with self.assertRaises(BadWeights):
                    call()


if __name__ == "__main__":
    unittest.main()

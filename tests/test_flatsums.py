"""Point 80: sums of flats, and their products by joins."""

import copy
import unittest
from random import Random

from flatrooms.alike import renamed
from flatrooms.errors import BadBook, BadLot, BadSum
from flatrooms.flats import above
from flatrooms.flatsums import flats_graded, flats_joined, join, single_sums
from flatrooms.makers import even_book, table_book
from flatrooms.ranks import rank
from flatrooms.signs import signs
from tests.flathelp import (NO_FLATS, TWINS, empty_book, highest, lowest, no_sums, of_rank, order_books, plain_join,
                            plain_signs_over, sequence, some_flats, within)
from tests.samples import FANO, ODDS, book_of, orders_of, plain_rank
from tests.weighthelp import GREAT


def plain_product(book, one, other, graded):
    ranks, total = sequence(book), {}
    for first, number in one.items():
        for second, many in other.items():
            flat = plain_join(book, first, second)
            if not graded or ranks[flat] == ranks[first] + ranks[second]:
                total[flat] = total.get(flat, 0) + number * many
    return {flat: total[flat] for flat in sorted(total) if total[flat]}


class Joins(unittest.TestCase):
    def test_by_hand(self):
        book = even_book(2, 3)
        self.assertEqual(join(book, (0,), (1,)), (0, 1, 2))
        self.assertEqual(join(book, (), (1,)), (1,))
        self.assertEqual(join(other=(2,), one=(2,), book=book), (2,))
        self.assertEqual(join(even_book(3, 3), (0,), (1, 2)), (0, 1, 2))
        self.assertEqual(join(even_book(3, 3), (0,), (2,)), (0, 2))
        self.assertEqual(join(empty_book(), (), ()), ())
        self.assertEqual(join(even_book(0, 2), (0, 1), (0, 1)), (0, 1))
        self.assertEqual(join(book_of(3, (0,), (1,)), (2,), (0, 1, 2)), (0, 1, 2))

    def test_from_the_definition(self):
        for book in order_books():
            chance = Random(80)
            every = list(sequence(book))
            for one in chance.sample(every, min(len(every), 6)):
                for other in chance.sample(every, min(len(every), 6)):
                    self.assertEqual(join(book, one, other), plain_join(book, one, other))

    def test_wrong_flats(self):
        book = even_book(2, 3)
        for flat in NO_FLATS:
            for call in (lambda: join(book, flat, ()), lambda: join(book, (), flat)):
                with self.assertRaises(BadLot):
                    call()
        with self.assertRaises(BadLot):
            join(even_book(0, 2), (0, 1), ())
        with self.assertRaises(BadLot):
            join(book_of(3, (0,), (1,)), (), (2,))


class Products(unittest.TestCase):
    def test_by_hand(self):
        book = even_book(2, 3)
        one, other = {(0,): 2, (): 3}, {(1,): 5, (0,): -1}
        self.assertEqual(flats_joined(book, one, other), {(0,): -5, (0, 1, 2): 10, (1,): 15})
        self.assertEqual(list(flats_joined(book, one, other)), [(0,), (0, 1, 2), (1,)])
        self.assertEqual(flats_graded(book, one, other), {(0,): -3, (0, 1, 2): 10, (1,): 15})
        self.assertEqual(flats_graded(other=other, one=one, book=book), {(0,): -3, (0, 1, 2): 10, (1,): 15})
        self.assertEqual(flats_joined(other={}, one=one, book=book), {})
        self.assertEqual(flats_joined(book, {(0,): 1}, {(0,): 1}), {(0,): 1})
        self.assertEqual(flats_graded(book, {(0,): 1}, {(0,): 1}), {})
        self.assertEqual(flats_graded(book, {}, {}), {})
        self.assertEqual(flats_graded(book, {(0,): 0, (1,): GREAT}, {(): GREAT}), {(1,): GREAT * GREAT})
        self.assertEqual(flats_joined(book, {(0,): 1, (1,): -1}, {(2,): 1}), {})
        self.assertEqual(flats_joined(empty_book(), {(): 2}, {(): 3}), {(): 6})
        self.assertEqual(flats_graded(even_book(0, 2), {(0, 1): 2}, {(0, 1): 3}), {(0, 1): 6})

    def test_from_the_definition(self):
        for seed, book in enumerate(order_books()):
            one, other = some_flats(book, seed), some_flats(book, seed + 500)
            before = copy.deepcopy((one, other))
            for call, graded in ((flats_joined, False), (flats_graded, True)):
                found = call(book, one, other)
                self.assertEqual(found, plain_product(book, one, other, graded))
                self.assertEqual(list(found), sorted(found))
                self.assertNotIn(0, found.values())
            self.assertEqual((one, other), before)

    def test_sequence_brackets_and_what_changes_nothing(self):
        for seed, book in enumerate(order_books()):
            one, other, third = (some_flats(book, seed + k) for k in (7, 700, 7000))
            plain = {flat: one[flat] for flat in sorted(one) if one[flat]}
            for call in (flats_joined, flats_graded):
                found = call(book, one, other)
                self.assertEqual(found, call(book, other, one))
                self.assertEqual(call(book, found, third), call(book, one, call(book, other, third)))
                self.assertEqual(call(book, {lowest(book): 1}, one), plain)
                self.assertEqual(call(book, one, {lowest(book): 1}), plain)

    def test_flats_are_graded_products_of_bases(self):
        for book in order_books():
            closed = {thing: next((flat for flat in of_rank(book, 1) if thing in flat), None)
                      for thing in range(book.size)}
            for flat in list(sequence(book))[::3]:
                for base in bases_of(book, flat)[:4]:
                    product = {lowest(book): 1}
                    for thing in base:
                        product = flats_graded(book, product, {closed[thing]: 1})
                    self.assertEqual(product, {flat: 1})

    def test_renamed(self):
        for seed, book in enumerate([even_book(2, 3), TWINS, table_book(2, FANO)]):
            for order in orders_of(book, 3):
                moved = [{tuple(sorted(order[x] for x in flat)): number for flat, number in some.items()}
                         for some in (some_flats(book, seed), some_flats(book, seed + 9))]
                for call in (flats_joined, flats_graded):
                    found = call(book, some_flats(book, seed), some_flats(book, seed + 9))
                    self.assertEqual(call(renamed(book, order), *moved),
                                     {tuple(sorted(order[x] for x in flat)): number for flat, number in found.items()})

    def test_wrong_sums(self):
        book = even_book(2, 3)
        for wrong in no_sums(book):
            for call in (flats_joined, flats_graded):
                with self.assertRaises(BadSum):
                    call(book, wrong, {})
                with self.assertRaises(BadSum):
                    call(book, {(): 1}, wrong)
        for call in (flats_joined, flats_graded):
            with self.assertRaises(BadSum):
                call(even_book(0, 2), {(): 1}, {})
            with self.assertRaises(BadSum):
                call(book, {(0, 1): 0}, {})

    def test_what_is_returned_is_new(self):
        book, one = even_book(2, 3), {(): 1}
        flats_joined(book, one, one)[(0,)] = 7
        self.assertEqual(one, {(): 1})
        self.assertEqual(flats_joined(book, one, one), {(): 1})


def bases_of(book, flat):
    """The lots of flat that are free and as long as its rank."""
    found = sorted({tuple(x for x in base if x in flat) for base in book.bases})
    return [lot for lot in found if len(lot) == plain_rank(book, flat)]


class Single(unittest.TestCase):
    def test_by_hand(self):
        self.assertEqual(single_sums(even_book(1, 1)), {(): {(): 1, (0,): -1}, (0,): {(0,): 1}})
        found = single_sums(book=even_book(2, 3))
        self.assertEqual(found[()], {(): 1, (0,): -1, (0, 1, 2): 2, (1,): -1, (2,): -1})
        self.assertEqual(found[(1,)], {(0, 1, 2): -1, (1,): 1})
        self.assertEqual(list(found), [(), (0,), (0, 1, 2), (1,), (2,)])
        self.assertEqual(single_sums(empty_book()), {(): {(): 1}})
        self.assertEqual(single_sums(even_book(0, 2)), {(0, 1): {(0, 1): 1}})

    def test_from_the_definition(self):
        for book in order_books():
            found = single_sums(book)
            self.assertEqual(list(found), sorted(sequence(book)))
            for low in found:
                self.assertEqual(list(found[low]), sorted(found[low]))
                self.assertNotIn(0, found[low].values())
                if len(found) < 60:
                    self.assertEqual(found[low], {k: n for k, n in plain_signs_over(book, low).items() if n})

    def test_signs_of_the_books_above(self):
        for book in order_books()[::3]:
            found = single_sums(book)
            for low in list(found)[::4]:
                others = [thing for thing in range(book.size) if thing not in low]
                known = signs(above(book, low))
                for flat in found[low]:
                    self.assertTrue(within(low, flat))
                    lot = tuple(at for at, thing in enumerate(others) if thing in flat)
                    self.assertEqual(found[low][flat], known[lot])

    def test_each_alone_and_all_together(self):
        for book in order_books():
            found = single_sums(book)
            if len(found) > 50:
                continue
            total = {}
            for low, one in found.items():
                for flat, number in one.items():
                    total[flat] = total.get(flat, 0) + number
                for high, other in list(found.items())[::1 if len(found) < 12 else 5]:
                    self.assertEqual(flats_joined(book, one, other), one if low == high else {})
                self.assertEqual(flats_joined(book, one, one), one)
            self.assertEqual({flat: number for flat, number in total.items() if number}, {lowest(book): 1})

    def test_what_is_returned_is_new(self):
        single_sums(even_book(1, 1))[()].clear()
        self.assertEqual(single_sums(even_book(1, 1))[()], {(): 1, (0,): -1})


class Wrong(unittest.TestCase):
    def test_books_come_first(self):
        for thing in [*ODDS, 0]:
            for call in (lambda: join(thing, None, None), lambda: flats_joined(thing, 1, 2),
                         lambda: flats_graded(thing, 1, 2), lambda: single_sums(thing)):
                with self.assertRaises(BadBook) as caught:
                    call()
                self.assertIsNone(caught.exception.part)

    def test_books_of_eight_things_are_let(self):
        book = even_book(2, 8)
        self.assertEqual(join(book, (0,), (7,)), highest(book))
        self.assertEqual(rank(book, highest(book)), 2)
        self.assertEqual(flats_graded(book, {(0,): 1}, {(7,): 2}), {highest(book): 2})


if __name__ == "__main__":
    unittest.main()

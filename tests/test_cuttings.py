"""Point 64: sums led to the book cut short."""

import copy
import unittest

from flatrooms.errors import BadBook, BadSum
from flatrooms.cuttings import cut_led
from flatrooms.makers import even_book, table_book
from flatrooms.rooms import added, last_number, multiplied, tidied
from flatrooms.sides import cut_short
from flatrooms.sums import outer_sum
from flatrooms.towers import room_sizes, tidy_towers
from tests.roomhelp import NO_TOWERS, all_towers, chance_sum, letter, plain_product, prime_rank, rows_of, with_thing
from tests.samples import FANO, ODDS, plain_rank, room_books
from tests.test_letters import sums_of
from tests.weighthelp import GREAT


def deep_books(most):
    return [book for book in room_books(most) if book.rank > 1]


def plain_cut_led(book, towers):
    kept = {tower: number for tower, number in towers.items()
            if all(plain_rank(book, flat) != book.rank - 1 for flat, _ in tower)}
    return tidied(cut_short(book), kept)


class Led(unittest.TestCase):
    def test_by_hand(self):
        book = even_book(3, 3)
        self.assertEqual(cut_short(book), even_book(2, 3))
        for lot in ((0, 1), (0, 2), (1, 2)):
            self.assertEqual(cut_led(book, letter(*lot)), {})
        for lot in ((0,), (1,), (2,)):
            self.assertEqual(last_number(even_book(2, 3), cut_led(book, letter(*lot))), 1)
        self.assertEqual(cut_led(book, letter(0)), {(((0, 1, 2), 1),): -1})
        self.assertEqual(cut_led(towers={(): GREAT, **letter(0, 1, 2)}, book=book), {(): GREAT, **letter(0, 1, 2)})
        self.assertEqual(cut_led(book, {}), {})
        self.assertEqual(cut_led(book, {(): 0, (((0,), 1),): 0}), {})
        self.assertEqual(cut_led(even_book(2, 2), {(): 3, **letter(0, 1), **letter(0)}), {(): 3})
        self.assertEqual(cut_led(book, {**letter(0, times=GREAT), (((0,), 1), ((0, 1), GREAT)): 1}), {})

    def test_from_the_definition(self):
        for seed, book in enumerate(deep_books(5)):
            for k in range(3):
                towers = sums_of(book, seed + k)
                before = copy.deepcopy(towers)
                found = cut_led(book, towers)
                self.assertEqual(towers, before)
                self.assertEqual(found, plain_cut_led(book, towers))
                self.assertEqual(list(found), sorted(found))
                self.assertNotIn(0, found.values())

    def test_products_and_sums(self):
        for seed, book in enumerate(deep_books(5)):
            short = cut_short(book)
            one, other = sums_of(book, seed), sums_of(book, seed + 30)
            first, second = cut_led(book, one), cut_led(book, other)
            self.assertEqual(cut_led(book, multiplied(book, one, other)), multiplied(short, first, second))
            self.assertEqual(cut_led(book, added(book, one, other, -7)), added(short, first, second, -7))
            self.assertEqual(cut_led(book, tidied(book, one)), first)
            for thing in range(book.size):
                self.assertEqual(cut_led(book, plain_product(one, with_thing(book, thing))), {})

    def test_last_numbers(self):
        for seed, book in enumerate(deep_books(6) + [table_book(2, FANO)]):
            towers = all_towers(book, book.rank - 2)
            for k in range(3):
                some = chance_sum(towers, seed + k)
                number = last_number(book, multiplied(book, outer_sum(book), some))
                self.assertEqual(last_number(cut_short(book), cut_led(book, some)), number)

    def test_led_to_the_same(self):
        for book in deep_books(6) + [table_book(2, FANO)]:
            short = cut_short(book)
            for degree in range(book.rank):
                towers = tidy_towers(book, degree)
                if len(towers) > 60:
                    continue
                led = rows_of([cut_led(book, {tower: 1}) for tower in towers], tidy_towers(short, degree))
                by_outer = rows_of([multiplied(book, outer_sum(book), {tower: 1}) for tower in towers],
                                   tidy_towers(book, degree + 1))
                ranks = [prime_rank(rows) for rows in (led, by_outer)]
                ranks.append(prime_rank([[*one, *other] for one, other in zip(led, by_outer)]))
                sizes = room_sizes(short)
                self.assertEqual(ranks, [sizes[degree] if degree < len(sizes) else 0] * 3)


class Wrong(unittest.TestCase):
    def test_rank_one_comes_first(self):
        for book in (even_book(1, 1), even_book(1, 7)):
            for towers in [*ODDS, {(): 1}]:
                with self.assertRaises(BadBook) as caught:
                    cut_led(book, towers)
                self.assertEqual(caught.exception.part, "cut")

    def test_sums(self):
        wrong = [thing for thing in ODDS if thing != {}] + [0, [], [{}]] + [{tower: 1} for tower in NO_TOWERS]
        for towers in [*wrong, {(): True}, {(((0, 1), 1),): None}]:
            with self.assertRaises(BadSum):
                cut_led(even_book(3, 3), towers)
        with self.assertRaises(BadSum):
            cut_led(table_book(2, FANO), letter(0, 1))


if __name__ == "__main__":
    unittest.main()

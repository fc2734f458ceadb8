"""Point 61: a thing left out, and the room of the other things led in."""

import copy
import unittest

from flatrooms.errors import BadSum, BadThing
from flatrooms.leavings import both_flats, led_in
from flatrooms.makers import even_book, table_book
from flatrooms.ranks import sure
from flatrooms.rooms import added, last_number, multiplied, tidied
from flatrooms.sides import left_out, side_by_side
from flatrooms.towers import tidy_towers
from tests.roomhelp import (NO_TOWERS, all_towers, chance_sum, everything, letter, plain_product, prime_rank, rows_of,
                            with_thing)
from tests.samples import FANO, ODDS, plain_flats, room_books
from tests.test_letters import PRIMES, plain_replaced, sums_of
from tests.weighthelp import GREAT


def books_with_things(most, few=3):
    """Books of two things or more, with some of their things: all of few, the sure ones first."""
    found = []
    for book in room_books(most):
        if book.size > 1:
            things = [*sure(book), *range(book.size)]
            found.extend((book, thing) for thing in dict.fromkeys(things[:1] + things[-few:]))
    return found


def plain_both_flats(book, thing):
    flats = plain_flats(book)
    return [flat for flat in flats if flat and thing not in flat and tuple(sorted((*flat, thing))) in flats
            and len(flat) < book.size - 1]


def plain_letters_led(book, thing):
    """What replaces the letters of left_out, straight from the definition."""
    flats = plain_flats(book)
    found = {}
    for flat in plain_flats(left_out(book, thing)):
        same = tuple(x + (x >= thing) for x in flat)
        if flat:
            found[flat] = {((lot, 1),): 1 for lot in (same, tuple(sorted((*same, thing)))) if lot in flats}
    return found


def others_of(book, thing):
    return tuple(x for x in range(book.size) if x != thing)


class Both(unittest.TestCase):
    def test_by_hand(self):
        self.assertEqual(both_flats(even_book(3, 3), 0), [(1,), (2,)])
        self.assertEqual(both_flats(thing=1, book=even_book(3, 4)), [(0,), (2,), (3,)])
        self.assertEqual(both_flats(even_book(2, 3), 0), [])
        self.assertEqual(both_flats(even_book(2, 2), 0), [])
        self.assertEqual(both_flats(even_book(1, 7), 6), [])
        self.assertEqual(both_flats(table_book(2, FANO), 0), [])
        self.assertEqual(len(both_flats(even_book(4, 4), 3)), 6)

    def test_from_the_definition(self):
        for book in room_books(7):
            for thing in range(book.size) if book.size > 1 else []:
                found = both_flats(book, thing)
                self.assertIs(type(found), list)
                self.assertEqual(found, plain_both_flats(book, thing))

    def test_beside_a_sure_thing(self):
        for book in room_books(5):
            more = side_by_side(book, even_book(1, 1))
            flats = [flat for flat in plain_flats(book) if flat and flat != everything(book)]
            self.assertEqual(both_flats(more, book.size), flats)

    def test_new_lists(self):
        both_flats(even_book(3, 3), 0).clear()
        self.assertEqual(len(both_flats(even_book(3, 3), 0)), 2)


class LedIn(unittest.TestCase):
    def test_by_hand(self):
        book = even_book(3, 3)
        self.assertEqual(led_in(book, 0, {(): 1}), {(): 1})
        self.assertEqual(led_in(book, 0, {(): 0}), {})
        self.assertEqual(led_in(towers={}, thing=0, book=book), {})
        self.assertEqual(led_in(book, 2, letter(0)), tidied(book, {**letter(0), **letter(0, 2)}))
        self.assertEqual(led_in(book, 0, letter(0, 1)), tidied(book, {**letter(1, 2), **letter(0, 1, 2)}))
        self.assertEqual(led_in(even_book(2, 3), 0, letter(0)), tidied(even_book(2, 3), letter(1)))
        self.assertEqual(led_in(even_book(2, 3), 0, letter(0, 1)), {(((0, 1, 2), 1),): 1})
        self.assertEqual(led_in(even_book(1, 2), 1, {(): GREAT, (((0,), 1),): 5}), {(): GREAT})

    def test_from_the_definition(self):
        for seed, (book, thing) in enumerate(books_with_things(5)):
            letters = plain_letters_led(book, thing)
            self.assertTrue(all(letters.values()))
            for k in range(3):
                towers = sums_of(left_out(book, thing), seed + k)
                before = copy.deepcopy(towers)
                found = led_in(book, thing, towers)
                self.assertEqual(towers, before)
                self.assertEqual(found, tidied(book, plain_replaced(towers, letters)))
                self.assertEqual(list(found), sorted(found))
                self.assertNotIn(0, found.values())

    def test_from_the_definition_for_greater_books(self):
        for book, thing in [(table_book(2, FANO), 2), (even_book(3, 7), 6), (even_book(4, 6), 0), (even_book(6, 6), 3)]:
            letters = plain_letters_led(book, thing)
            for degree in (1, 2):
                for tower in tidy_towers(left_out(book, thing), degree)[::20]:
                    self.assertEqual(led_in(book, thing, {tower: 2}),
                                     tidied(book, plain_replaced({tower: 2}, letters)))

    def test_great_times(self):
        self.assertEqual(led_in(even_book(3, 4), 1, {**letter(0, times=GREAT), (): 3}), {(): 3})
        self.assertEqual(led_in(even_book(3, 3), 1, letter(0, 1, times=2)), {})


class Rules(unittest.TestCase):
    def test_products_and_sums(self):
        for seed, (book, thing) in enumerate(books_with_things(5)):
            left = left_out(book, thing)
            one, other = sums_of(left, seed), sums_of(left, seed + 40)
            first, second = led_in(book, thing, one), led_in(book, thing, other)
            self.assertEqual(led_in(book, thing, multiplied(left, one, other)), multiplied(book, first, second))
            self.assertEqual(led_in(book, thing, added(left, one, other, -7)), added(book, first, second, -7))
            self.assertEqual(led_in(book, thing, tidied(left, one)), first)
            for other_thing in range(left.size):
                nothing = plain_product(one, with_thing(left, other_thing))
                self.assertEqual(tidied(book, plain_replaced(nothing, plain_letters_led(book, thing))), {})

    def test_free_of_one_another(self):
        for book, thing in books_with_things(5) + [(table_book(2, FANO), 3), (even_book(4, 6), 5)]:
            left = left_out(book, thing)
            for degree in range(left.rank):
                rows = rows_of([led_in(book, thing, {tower: 1}) for tower in tidy_towers(left, degree)],
                               tidy_towers(book, degree))
                for prime in PRIMES:
                    self.assertEqual(prime_rank(rows, prime), len(rows))

    def test_last_numbers(self):
        for seed, (book, thing) in enumerate(books_with_things(6)):
            left = left_out(book, thing)
            towers = all_towers(left, left.rank - 1)
            for k in range(2):
                some = chance_sum(towers, seed + k)
                led = led_in(book, thing, some)
                if thing in sure(book):
                    led = multiplied(book, letter(*others_of(book, thing)), led)
                self.assertEqual(last_number(book, led), last_number(left, some))


class Wrong(unittest.TestCase):
    def test_things(self):
        for book in (even_book(1, 2), even_book(3, 3), even_book(3, 4)):
            for thing in [*ODDS, -1, book.size, book.size + 1, GREAT, (0,)]:
                for call in (lambda: both_flats(book, thing), lambda: led_in(book, thing, None)):
                    with self.assertRaises(BadThing):
                        call()

    def test_books_of_one_thing(self):
        for thing in (0, 1, -1, None, True):
            for call in (lambda: both_flats(even_book(1, 1), thing), lambda: led_in(even_book(1, 1), thing, {})):
                with self.assertRaises(BadThing):
                    call()

    def test_sums(self):
        book = even_book(4, 4)
        self.assertEqual(left_out(book, 2), even_book(3, 3))
        wrong = [thing for thing in ODDS if thing != {}] + [0, [], [{}]] + [{tower: 1} for tower in NO_TOWERS]
        for towers in [*wrong, {(): True}, {(): None}, {(((0, 1, 2, 3), 1),): 1}]:
            with self.assertRaises(BadSum):
                led_in(book, 2, towers)
        with self.assertRaises(BadSum):
            led_in(table_book(2, FANO), 6, letter(0, 1, 2))
        self.assertEqual(led_in(table_book(2, FANO), 6, letter(0, 5)), tidied(table_book(2, FANO), letter(0, 5, 6)))


if __name__ == "__main__":
    unittest.main()

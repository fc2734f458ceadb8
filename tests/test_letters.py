"""Point 60: the letter of a flat, times sums of the books below and above it."""

import copy
import unittest
from random import Random

from flatrooms.errors import BadLot, BadSum
from flatrooms.flats import above, below
from flatrooms.letters import by_letter
from flatrooms.makers import even_book, table_book
from flatrooms.rooms import added, last_number, multiplied, tidied
from flatrooms.towers import tidy_towers
from tests.roomhelp import (NO_TOWERS, all_towers, chance_sum, everything, letter, plain_product, prime_rank, rows_of,
                            with_thing)
from tests.samples import FANO, ODDS, plain_flats, plain_rank, room_books
from tests.weighthelp import GREAT

PRIMES = (2, 3, 1000003)


def inner_flats(book):
    """The flats of rank 1 or more, but not all things."""
    return [flat for flat in plain_flats(book) if flat and flat != everything(book)]


def books_with_flats(most):
    """Books with some of their flats."""
    chance = Random(41)
    found = []
    for book in room_books(most):
        flats = inner_flats(book)
        found.extend((book, flat) for flat in chance.sample(flats, min(len(flats), 6)))
    return found


def others_of(book, flat):
    return [thing for thing in range(book.size) if thing not in flat]


def plain_letters_below(book, flat):
    """What replaces the letters below, straight from the definition."""
    within = [other for other in inner_flats(book) if set(other) < set(flat)]
    found = {tuple(flat.index(x) for x in other): letter(*other) for other in within}
    found[tuple(range(len(flat)))] = {((other, 1),): -1 for other in within if flat[0] in other}
    return found


def plain_letters_above(book, flat):
    others = others_of(book, flat)
    return {tuple(others.index(x) for x in other if x not in flat): letter(*other)
            for other in plain_flats(book) if set(flat) < set(other)}


def plain_replaced(towers, letters):
    """Each letter replaced, nothing tidied."""
    total = {}
    for tower, number in towers.items():
        product = {(): number}
        for flat, times in tower:
            for _ in range(times):
                product = plain_product(product, letters[flat])
        for key, many in product.items():
            total[key] = total.get(key, 0) + many
    return total


def plain_by_letter(book, flat, low, high):
    first = plain_replaced(low, plain_letters_below(book, flat))
    second = plain_replaced(high, plain_letters_above(book, flat))
    return tidied(book, plain_product(plain_product(letter(*flat), first), second))


def sums_of(book, seed, degrees=None):
    """A sum of towers, tidy or not, of several degrees."""
    towers = [tower for degree in degrees or range(book.rank + 1) for tower in all_towers(book, degree)]
    return chance_sum(towers, seed)


class ByLetter(unittest.TestCase):
    def test_by_hand(self):
        book = even_book(3, 3)
        self.assertEqual((below(book, (0, 1)), above(book, (0, 1))), (even_book(2, 2), even_book(1, 1)))
        found = by_letter(book, (0, 1), {(((0,), 1),): 1}, {(): 1})
        self.assertEqual(found, multiplied(book, letter(0, 1), letter(0)))
        self.assertEqual(last_number(book, found), 1)
        self.assertEqual(last_number(even_book(2, 2), {(((0,), 1),): 1}), 1)
        self.assertEqual(by_letter(high={(): 1}, low={(): 1}, flat=(0, 1), book=book), letter(0, 1))
        self.assertEqual(by_letter(book, (0, 1), {}, {(): 1}), {})
        self.assertEqual(by_letter(book, (0, 1), {(): 1}, {}), {})
        self.assertEqual(by_letter(book, (0, 1), {(): GREAT}, {(): -GREAT, (((0,), 1),): 5}),
                         {(((0, 1), 1),): -GREAT ** 2})
        self.assertEqual(by_letter(book, (1, 2), letter(0, 1), {(): 1}), {(((0, 1, 2), 2),): -1})
        self.assertEqual(by_letter(book, (1,), {(): 1}, letter(0)), {(((0, 1, 2), 2),): 1})
        self.assertEqual(by_letter(book, (1,), {(): 1}, letter(0, 1)), {(((0, 1, 2), 2),): -1})
        self.assertEqual(by_letter(book, (1,), letter(0), {(): 1}), {})

    def test_from_the_definition(self):
        for seed, (book, flat) in enumerate(books_with_flats(5)):
            for k in range(3):
                low, high = sums_of(below(book, flat), seed + k), sums_of(above(book, flat), seed + 70 + k)
                before = copy.deepcopy((low, high))
                found = by_letter(book, flat, low, high)
                self.assertEqual((low, high), before)
                self.assertEqual(found, plain_by_letter(book, flat, low, high))
                self.assertEqual(list(found), sorted(found))
                self.assertNotIn(0, found.values())

    def test_from_the_definition_for_greater_books(self):
        for book in (table_book(2, FANO), even_book(3, 6), even_book(4, 6)):
            for flat in inner_flats(book)[::6]:
                for tower in tidy_towers(below(book, flat), 1)[:3] + [()]:
                    for other in tidy_towers(above(book, flat), 1)[:4] + [()]:
                        one, two = {tower: 2}, {other: -3}
                        self.assertEqual(by_letter(book, flat, one, two), plain_by_letter(book, flat, one, two))

    def test_great_times(self):
        book = even_book(3, 4)
        for low in (letter(0, times=GREAT), letter(0, 1, times=GREAT), letter(0, times=3)):
            self.assertEqual(by_letter(book, (0, 1), low, {(): 1}), {})
            self.assertEqual(by_letter(book, (0, 1), {**low, (): 2}, letter(0, 1, times=GREAT)), {})
            self.assertEqual(by_letter(book, (0, 1), {**low, (): 2}, {(): 1}), {(((0, 1), 1),): 2})


class Rules(unittest.TestCase):
    def test_last_numbers(self):
        for seed, (book, flat) in enumerate(books_with_flats(6)):
            under, over = below(book, flat), above(book, flat)
            for k in range(2):
                low = sums_of(under, seed + k, [under.rank - 1])
                high = sums_of(over, seed + k, [over.rank - 1])
                number = last_number(under, low) * last_number(over, high)
                self.assertEqual(last_number(book, by_letter(book, flat, low, high)), number)

    def test_what_is_the_same_leads_to_the_same(self):
        for seed, (book, flat) in enumerate(books_with_flats(5)):
            under, over = below(book, flat), above(book, flat)
            low, high = sums_of(under, seed), sums_of(over, seed)
            found = by_letter(book, flat, low, high)
            self.assertEqual(by_letter(book, flat, tidied(under, low), high), found)
            self.assertEqual(by_letter(book, flat, low, tidied(over, high)), found)
            for thing in range(under.size):
                self.assertEqual(plain_by_letter(book, flat, plain_product(low, with_thing(under, thing)), high), {})
            for thing in range(over.size):
                self.assertEqual(plain_by_letter(book, flat, low, plain_product(high, with_thing(over, thing))), {})

    def test_sums(self):
        for seed, (book, flat) in enumerate(books_with_flats(5)):
            under, over = below(book, flat), above(book, flat)
            one, other, high = sums_of(under, seed), sums_of(under, seed + 1), sums_of(over, seed)
            self.assertEqual(by_letter(book, flat, added(under, one, other, -4), high),
                             added(book, by_letter(book, flat, one, high), by_letter(book, flat, other, high), -4))

    def test_all_that_the_letter_leads_to(self):
        for book, flat in books_with_flats(5) + [(table_book(2, FANO), (0, 1, 3)), (table_book(2, FANO), (4,))]:
            under, over = below(book, flat), above(book, flat)
            for degree in range(book.rank - 1):
                towers = tidy_towers(book, degree + 1)
                found = [by_letter(book, flat, {low: 1}, {high: 1}) for k in range(degree + 1)
                         for low in tidy_towers(under, k) for high in tidy_towers(over, degree - k)]
                rows = rows_of(found, towers)
                for prime in PRIMES:
                    self.assertEqual(prime_rank(rows, prime), len(found))
                led = rows_of([multiplied(book, letter(*flat), {tower: 1}) for tower in tidy_towers(book, degree)],
                              towers)
                for prime in PRIMES:
                    self.assertEqual(prime_rank(led, prime), len(found))
                    self.assertEqual(prime_rank(rows + led, prime), len(found))


class Wrong(unittest.TestCase):
    def test_flats(self):
        book = even_book(3, 4)
        for flat in [*ODDS, 0, (), (0, 1, 2, 3), (0, 1, 2), (4,), (-1,), (1, 0), (0, 0), [0], [0, 1], (0, 1, 2, 3, 4)]:
            with self.assertRaises(BadLot):
                by_letter(book, flat, None, None)
        for flat in [(), (0,), (0, 1)]:
            with self.assertRaises(BadLot):
                by_letter(even_book(1, 2), flat, {(): 1}, {(): 1})
        with self.assertRaises(BadLot):
            by_letter(table_book(2, FANO), (0, 1), {}, {})

    def test_sums(self):
        book = even_book(6, 6)
        three = even_book(3, 3)
        self.assertEqual((below(book, (0, 1, 2)), above(book, (0, 1, 2))), (three, three))
        wrong = [thing for thing in ODDS if thing != {}] + [0, [], [{}]] + [{tower: 1} for tower in NO_TOWERS]
        for towers in [*wrong, {(): True}, {(((0, 1), 1),): None}]:
            for call in (lambda: by_letter(book, (0, 1, 2), towers, {(): 1}),
                         lambda: by_letter(book, (0, 1, 2), {(): 1}, towers),
                         lambda: by_letter(book, (0, 1, 2), towers, None)):
                with self.assertRaises(BadSum):
                    call()

    def test_sums_of_the_books_below_and_above(self):
        book = even_book(3, 4)
        self.assertEqual((below(book, (0,)), above(book, (0,))), (even_book(1, 1), even_book(2, 3)))
        for low, high in [(letter(1), {}), ({}, letter(0, 1)), ({}, letter(3)), (letter(0, 1), letter(2))]:
            with self.assertRaises(BadSum):
                by_letter(book, (0,), low, high)
        self.assertEqual(by_letter(book, (0,), {(): 1}, letter(2)), multiplied(book, letter(0), letter(0, 3)))
        self.assertEqual(plain_rank(book, (0, 3)), 2)


if __name__ == "__main__":
    unittest.main()

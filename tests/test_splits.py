"""Point 62: the parts of the room at a thing."""

import copy
import unittest
from random import Random

from flatrooms.errors import BadLot, BadSum, BadThing
from flatrooms.flats import above, below
from flatrooms.leavings import both_flats, led_in
from flatrooms.makers import even_book, table_book, web_book
from flatrooms.ranks import sure
from flatrooms.rooms import added, last_number, multiplied, tidied
from flatrooms.sides import left_out, side_by_side
from flatrooms.splits import by_thing, split_by
from flatrooms.towers import room_sizes, tidy_towers
from tests.roomhelp import (NO_TOWERS, all_towers, chance_sum, degree_of, letter, plain_product, prime_rank, rows_of,
                            with_thing)
from tests.samples import FANO, ODDS, room_books
from tests.test_leavings import books_with_things, others_of
from tests.test_letters import PRIMES, plain_letters_above, plain_letters_below, plain_replaced, sums_of
from tests.weighthelp import GREAT


def joined(flat, thing):
    return tuple(sorted((*flat, thing)))


def places(most, few=4):
    """Books, things, and some of both_flats."""
    chance = Random(51)
    found = []
    for book, thing in books_with_things(most):
        flats = both_flats(book, thing)
        found.extend((book, thing, flat) for flat in chance.sample(flats, min(len(flats), few)))
    return found


def under_and_over(book, thing, flat):
    return below(book, flat), above(book, joined(flat, thing))


def plain_by_thing(book, thing, flat, low, high):
    """Straight from the definition."""
    more = {}
    for lot, towers in plain_letters_below(book, flat).items():
        more[lot] = {}
        for ((other, _),), number in towers.items():
            more[lot][((other, 1),)] = number
            more[lot][((joined(other, thing), 1),)] = number
    first = plain_replaced(low, more)
    second = plain_replaced(high, plain_letters_above(book, joined(flat, thing)))
    return tidied(book, plain_product(plain_product(letter(*joined(flat, thing)), first), second))


def chance_parts(book, thing, seed):
    """A part for each key of split_by, taken by chance."""
    left = left_out(book, thing)
    parts = {(): led_in(book, thing, sums_of(left, seed))}
    if thing in sure(book):
        parts[others_of(book, thing)] = multiplied(book, letter(*others_of(book, thing)),
                                                   led_in(book, thing, sums_of(left, seed + 1)))
    for k, flat in enumerate(both_flats(book, thing)):
        under, over = under_and_over(book, thing, flat)
        one = by_thing(book, thing, flat, sums_of(under, seed + k), sums_of(over, seed + k))
        other = by_thing(book, thing, flat, sums_of(under, seed + k + 9), sums_of(over, seed + k + 9))
        parts[flat] = added(book, one, other, 1) if (seed + k) % 5 else {}
    return parts


def sum_of(book, sums):
    total = {}
    for one in sums:
        total = added(book, total, one, 1)
    return total


class ByThing(unittest.TestCase):
    def test_by_hand(self):
        book = even_book(3, 3)
        self.assertEqual(by_thing(book, 0, (1,), {(): 1}, {(): 1}), letter(0, 1))
        self.assertEqual(by_thing(high={(): 3}, low={(): GREAT}, flat=(2,), thing=0, book=book),
                         {(((0, 2), 1),): 3 * GREAT})
        self.assertEqual(by_thing(book, 0, (1,), letter(0), {(): 1}), {})
        self.assertEqual(by_thing(book, 0, (1,), {}, {(): 1}), {})
        self.assertEqual(by_thing(book, 0, (1,), {(): 1}, {}), {})
        four = even_book(4, 4)
        self.assertEqual(by_thing(four, 2, (0, 1), letter(1), {(): 1}),
                         tidied(four, {(((1,), 1), ((0, 1, 2), 1)): 1, (((1, 2), 1), ((0, 1, 2), 1)): 1}))
        self.assertEqual(by_thing(four, 2, (0, 1), letter(0, 1), {(): 1}),
                         tidied(four, {(((0,), 1), ((0, 1, 2), 1)): -1, (((0, 2), 1), ((0, 1, 2), 1)): -1}))
        self.assertEqual(by_thing(four, 2, (1,), {(): 1}, letter(1)), tidied(four, {(((1, 2), 1), ((1, 2, 3), 1)): 1}))

    def test_from_the_definition(self):
        for seed, (book, thing, flat) in enumerate(places(5)):
            under, over = under_and_over(book, thing, flat)
            for k in range(2):
                low, high = sums_of(under, seed + k), sums_of(over, seed + k)
                before = copy.deepcopy((low, high))
                found = by_thing(book, thing, flat, low, high)
                self.assertEqual((low, high), before)
                self.assertEqual(found, plain_by_thing(book, thing, flat, low, high))
                self.assertEqual(list(found), sorted(found))
                self.assertNotIn(0, found.values())

    def test_from_the_definition_for_greater_books(self):
        for book, thing in [(even_book(4, 6), 0), (even_book(6, 6), 3), (even_book(5, 6), 5), (even_book(3, 7), 1)]:
            for flat in both_flats(book, thing)[::7]:
                under, over = under_and_over(book, thing, flat)
                for low in tidy_towers(under, 1)[:2] + [()]:
                    for high in tidy_towers(over, 1)[-2:] + [()]:
                        one, two = {low: 2}, {high: -1}
                        self.assertEqual(by_thing(book, thing, flat, one, two),
                                         plain_by_thing(book, thing, flat, one, two))

    def test_the_rules_below_and_above(self):
        for seed, (book, thing, flat) in enumerate(places(5)):
            under, over = under_and_over(book, thing, flat)
            low, high = sums_of(under, seed), sums_of(over, seed)
            for one in range(under.size):
                nothing = plain_product(low, with_thing(under, one))
                self.assertEqual(plain_by_thing(book, thing, flat, nothing, high), {})
            for one in range(over.size):
                nothing = plain_product(high, with_thing(over, one))
                self.assertEqual(plain_by_thing(book, thing, flat, low, nothing), {})

    def test_great_times(self):
        book = even_book(4, 4)
        self.assertEqual(by_thing(book, 2, (0, 1), letter(0, times=GREAT), {(): 1}), {})
        self.assertEqual(by_thing(book, 2, (0, 1), {(): 1}, letter(0, times=GREAT)), {})

    def test_last_numbers_of_two(self):
        for seed, (book, thing, flat) in enumerate(places(6)):
            under, over = under_and_over(book, thing, flat)
            for k in range(under.rank):
                for m in range(over.rank):
                    low, low_too = sums_of(under, seed, [k]), sums_of(under, seed + 1, [under.rank - 1 - k])
                    high, high_too = sums_of(over, seed, [m]), sums_of(over, seed + 1, [over.rank - 1 - m])
                    one = by_thing(book, thing, flat, low, high)
                    other = by_thing(book, thing, flat, low_too, high_too)
                    number = last_number(under, multiplied(under, low, low_too))
                    number *= last_number(over, multiplied(over, high, high_too))
                    self.assertEqual(last_number(book, multiplied(book, one, other)), -number)


class SplitBy(unittest.TestCase):
    def test_by_hand(self):
        book = even_book(2, 3)
        self.assertEqual(split_by(book, 0, {(): 2}), {(): {(): 2}})
        self.assertEqual(split_by(book, 0, {}), {(): {}})
        self.assertEqual(split_by(book, 2, letter(0)), {(): {(((0, 1, 2), 1),): -1}})
        self.assertEqual(split_by(towers={}, thing=0, book=even_book(3, 3)), {(): {}, (1,): {}, (1, 2): {}, (2,): {}})
        found = split_by(even_book(3, 3), 0, letter(0, 1))
        self.assertEqual(found, {(): {}, (1,): letter(0, 1), (1, 2): {}, (2,): {}})
        self.assertEqual(split_by(even_book(3, 3), 0, letter(1, 2)), {(): {}, (1,): {}, (1, 2): letter(1, 2), (2,): {}})
        found = split_by(even_book(3, 3), 0, letter(1))
        self.assertEqual(found[()], led_in(even_book(3, 3), 0, letter(0)))
        self.assertEqual(found[(1,)], {(((0, 1), 1),): -1})
        self.assertEqual(split_by(even_book(2, 2), 1, letter(0)), {(): {}, (0,): {(((0, 1), 1),): -1}})
        self.assertEqual(split_by(even_book(1, 3), 1, {(): GREAT, (((0, 1, 2), 1),): 4}), {(): {(): GREAT}})

    def test_the_parts_that_were_added(self):
        for seed, (book, thing) in enumerate(books_with_things(5)):
            for k in range(3):
                parts = chance_parts(book, thing, seed + 7 * k)
                total = sum_of(book, parts.values())
                before = copy.deepcopy(total)
                found = split_by(book, thing, total)
                self.assertEqual(total, before)
                self.assertEqual(found, parts)
                self.assertEqual(list(found), sorted(found))
                for part in found.values():
                    self.assertEqual(list(part), sorted(part))
                    self.assertNotIn(0, part.values())

    def test_the_parts_of_greater_books(self):
        for book, thing in [(even_book(6, 6), 2), (even_book(4, 6), 0), (table_book(2, FANO), 4), (even_book(3, 7), 6),
                            (side_by_side(even_book(2, 3), even_book(3, 3)), 5), (even_book(5, 6), 1)]:
            left = left_out(book, thing)
            degree = min(2, left.rank - 1)
            parts = {flat: {} for flat in [(), *both_flats(book, thing)]}
            parts[()] = led_in(book, thing, chance_sum(tidy_towers(left, degree), 1))
            if thing in sure(book):
                led = led_in(book, thing, chance_sum(tidy_towers(left, degree - 1), 2))
                parts[others_of(book, thing)] = multiplied(book, letter(*others_of(book, thing)), led)
            for flat in both_flats(book, thing)[::5]:
                under, over = under_and_over(book, thing, flat)
                at = min(degree - 1, under.rank - 1)
                if degree - 1 - at < over.rank:
                    low = chance_sum(tidy_towers(under, at), 3)
                    parts[flat] = by_thing(book, thing, flat, low, chance_sum(tidy_towers(over, degree - 1 - at), 4))
            self.assertEqual(split_by(book, thing, sum_of(book, parts.values())), parts)

    def test_what_stands_where(self):
        for seed, (book, thing) in enumerate(books_with_things(5)):
            left = left_out(book, thing)
            towers = sums_of(book, seed)
            found = split_by(book, thing, towers)
            keys = [(), *both_flats(book, thing)] + ([others_of(book, thing)] if thing in sure(book) else [])
            self.assertEqual(list(found), sorted(keys))
            self.assertEqual(sum_of(book, found.values()), tidied(book, towers))
            for degree in range(book.rank):
                basis = tidy_towers(book, degree)
                ends = {flat: [] for flat in keys}
                ends[()] = [led_in(book, thing, {tower: 1}) for tower in tidy_towers(left, degree)]
                for flat in both_flats(book, thing):
                    under, over = under_and_over(book, thing, flat)
                    ends[flat] = [by_thing(book, thing, flat, {low: 1}, {high: 1}) for k in range(degree)
                                  for low in tidy_towers(under, k) for high in tidy_towers(over, degree - 1 - k)]
                if thing in sure(book) and degree:
                    ends[others_of(book, thing)] = [
                        multiplied(book, letter(*others_of(book, thing)), led_in(book, thing, {tower: 1}))
                        for tower in tidy_towers(left, degree - 1)]
                for flat in keys:
                    part = {tower: number for tower, number in found[flat].items() if degree_of(tower) == degree}
                    rows = rows_of(ends[flat], basis)
                    self.assertEqual(prime_rank(rows + rows_of([part], basis)), len(rows))
                every = rows_of([one for some in ends.values() for one in some], basis)
                self.assertEqual(len(every), len(basis))
                for prime in PRIMES:
                    self.assertEqual(prime_rank(every, prime), len(basis))

    def test_parts_at_unlike_keys(self):
        for seed, (book, thing) in enumerate(books_with_things(5)):
            for degree in range(book.rank):
                one = split_by(book, thing, sums_of(book, seed, [degree]))
                other = split_by(book, thing, sums_of(book, seed + 1, [book.rank - 1 - degree]))
                for key, part in one.items():
                    for key_too, part_too in other.items():
                        if key != key_too and {key, key_too} != {(), others_of(book, thing)}:
                            self.assertEqual(last_number(book, multiplied(book, part, part_too)), 0)

    def test_sums_of_sums(self):
        for seed, (book, thing) in enumerate(books_with_things(5)):
            one, other = sums_of(book, seed), sums_of(book, seed + 1)
            first, second = split_by(book, thing, one), split_by(book, thing, other)
            found = split_by(book, thing, added(book, one, other, -GREAT))
            self.assertEqual(found, {key: added(book, first[key], second[key], -GREAT) for key in first})

    def test_sizes(self):
        for book, thing in books_with_things(6):
            sizes = list(room_sizes(left_out(book, thing))) + [0] * (thing in sure(book))
            for k, number in enumerate(room_sizes(left_out(book, thing)) if thing in sure(book) else []):
                sizes[k + 1] += number
            for flat in both_flats(book, thing):
                under, over = under_and_over(book, thing, flat)
                for k, number in enumerate(room_sizes(under)):
                    for m, more in enumerate(room_sizes(over)):
                        sizes[k + m + 1] += number * more
            self.assertEqual(tuple(sizes), room_sizes(book))

    def test_both_flats_that_are_none(self):
        book = web_book(4, [(0, 1), (1, 2), (0, 2), (2, 3), (1, 3)])
        for thing in range(5):
            for flat, part in split_by(book, thing, {tower: 1 for tower in all_towers(book, 1)}).items():
                self.assertTrue(flat == () or flat in both_flats(book, thing))
                self.assertLessEqual(set(part), set(tidy_towers(book, 1)))


class Wrong(unittest.TestCase):
    def test_things_come_first(self):
        for book in room_books(3):
            things = [*ODDS, -1, book.size, GREAT] + ([0] if book.size == 1 else [])
            for thing in things:
                for call in (lambda: by_thing(book, thing, None, None, None), lambda: split_by(book, thing, None)):
                    with self.assertRaises(BadThing):
                        call()

    def test_flats(self):
        book = even_book(3, 4)
        self.assertEqual(both_flats(book, 1), [(0,), (2,), (3,)])
        for flat in [*ODDS, 0, (), (1,), (0, 2), (0, 1), (0, 2, 3), (0, 1, 2, 3), [0], (4,), (0, 0), (False,), (0.0,)]:
            with self.assertRaises(BadLot):
                by_thing(book, 1, flat, None, None)
        for flat in [(1, 2), (0,), (0, 1)]:
            with self.assertRaises(BadLot):
                by_thing(even_book(3, 3), 0, flat, {}, {})

    def test_sums(self):
        book = even_book(7, 7)
        three = even_book(3, 3)
        self.assertEqual(under_and_over(book, 3, (0, 1, 2)), (three, three))
        wrong = [thing for thing in ODDS if thing != {}] + [0, [], [{}]] + [{tower: 1} for tower in NO_TOWERS]
        for towers in [*wrong, {(): True}, {(((0, 1), 1),): None}]:
            for call in (lambda: by_thing(book, 3, (0, 1, 2), towers, {(): 1}),
                         lambda: by_thing(book, 3, (0, 1, 2), {(): 1}, towers),
                         lambda: by_thing(book, 3, (0, 1, 2), towers, None),
                         lambda: split_by(three, 1, towers)):
                with self.assertRaises(BadSum):
                    call()


if __name__ == "__main__":
    unittest.main()

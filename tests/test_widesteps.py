"""Points 74 and 75: opposite parts of the wider room, weights that rise, and their forms."""

import copy
import unittest
from random import Random

from flatrooms.alike import renamed
from flatrooms.errors import BadNumber, BadSum, BadWeights
from flatrooms.makers import even_book, table_book
from flatrooms.tables import determinant, sign_counts
from flatrooms.wides import wide_last, wide_multiplied, wide_sizes, wide_tidied, wide_towers
from flatrooms.widesteps import is_rising, rising_sum, wide_form, wide_pairing
from flatrooms.widesums import bare_letter
from tests.roomhelp import everything, letter
from tests.samples import FANO, ODDS, orders_of, room_books
from tests.test_steps import NO_STEPS, chance_steps
from tests.weighthelp import (GREAT, NO_WEIGHTS, bent_weights, both_weights, even_weights, lots_of, same_weights,
                              thing_weights, weak_weights)
from tests.widehelp import even_rising, plain_bare, plain_letters, plain_rising, rising_weights

# Above this size of a part of the wider room its tables take too long to be tested.
MOST = 70


def without(book, lot):
    return tuple(x for x in range(book.size) if x not in lot)


def plain_rising_sum(book, weights):
    """Straight from the definition, not tidied."""
    total = {tower: number * weights[everything(book)] for tower, number in plain_bare(book).items()}
    for flat in plain_letters(book):
        if flat != everything(book):
            total[((flat, 1),)] += weights[without(book, flat)]
    return total


def wide_parts(most=6):
    """Each book with the degrees up to half of its rank, where the part is not too great."""
    books = room_books(most) + [table_book(2, FANO), even_book(3, 7)]
    return [(book, degree) for book in books for degree in range(book.rank // 2 + 1)
            if wide_sizes(book)[degree] <= MOST]


class Pairing(unittest.TestCase):
    def test_by_hand(self):
        self.assertEqual(wide_pairing(even_book(1, 1), 0), ((-1,),))
        self.assertEqual(wide_pairing(degree=1, book=even_book(1, 1)), ((-1,),))
        self.assertEqual(wide_pairing(even_book(2, 2), 0), ((1,),))
        self.assertEqual(wide_pairing(even_book(2, 2), 1), ((-1, 0, 0), (0, 1, 0), (0, 0, -1)))

    def test_last_numbers_of_products(self):
        for book in room_books(5):
            for degree in range(book.rank + 1):
                table = wide_pairing(book, degree)
                self.assertIs(type(table), tuple)
                ones, others = wide_towers(book, degree), wide_towers(book, book.rank - degree)
                self.assertEqual((len(table), {len(row) for row in table}), (len(ones), {len(others)}))
                for one, row in list(zip(ones, table))[::6]:
                    self.assertIs(type(row), tuple)
                    for other, number in list(zip(others, row))[::7]:
                        self.assertEqual(number, wide_last(book, wide_multiplied(book, {one: 1}, {other: 1})))
                self.assertEqual(tuple(zip(*wide_pairing(book, book.rank - degree))), table)

    def test_nothing_is_lost(self):
        for book in room_books(6) + [table_book(2, FANO), even_book(3, 7)]:
            for degree in range(book.rank + 1):
                if wide_sizes(book)[degree] < 140:
                    self.assertIn(determinant(wide_pairing(book, degree)), (1, -1))

    def test_degrees(self):
        for book in (even_book(1, 1), even_book(2, 3), even_book(3, 3)):
            for degree in [*ODDS, -1, book.rank + 1, GREAT]:
                with self.assertRaises(BadNumber) as caught:
                    wide_pairing(book, degree)
                self.assertEqual(caught.exception.part, "degree")


class Rising(unittest.TestCase):
    def test_by_hand(self):
        two = even_book(2, 2)
        self.assertIs(is_rising(two, {(): 0, (0,): 2, (1,): 2, (0, 1): 3}), True)
        self.assertIs(is_rising(two, {(): 0, (0,): 2, (1,): 2, (0, 1): 2}), False)
        self.assertIs(is_rising(two, {(): 0, (0,): 2, (1,): 2, (0, 1): 4}), False)
        self.assertIs(is_rising(two, {(): 0, (0,): 3, (1,): 1, (0, 1): 3}), False)
        self.assertIs(is_rising(two, {(): 1, (0,): 2, (1,): 2, (0, 1): 3}), False)
        self.assertIs(is_rising(thing={(): 0, (0,): 1}, book=even_book(1, 1)), True)
        self.assertIs(is_rising(even_book(1, 1), {(): 0, (0,): 0}), False)
        self.assertIs(is_rising(even_book(1, 1), {(): 0, (0,): -1}), False)
        self.assertIs(is_rising(even_book(1, 1), {(): 0, (0,): GREAT}), True)

    def test_any_value(self):
        for thing in [*ODDS, *NO_WEIGHTS, [], even_rising(1), even_rising(3), {**even_rising(2), (0, 1): True}]:
            self.assertIs(is_rising(even_book(1, 2), thing), False)

    def test_from_the_definition(self):
        for book in room_books(5):
            size = book.size
            for seed in range(4):
                for weights in (rising_weights(size, seed), bent_weights(size, seed), weak_weights(size, seed),
                                even_rising(size, GREAT), even_weights(size), same_weights(size, 3)):
                    self.assertIs(is_rising(book, weights), plain_rising(size, weights))
                self.assertTrue(is_rising(book, rising_weights(size, seed)))

    def test_one_number_changed(self):
        chance = Random(71)
        for size in range(1, 6):
            book = even_book(1, size)
            for seed in range(30):
                weights = rising_weights(size, seed)
                weights[chance.choice(list(weights))] += chance.choice([-9, -4, -2, -1, 1, 2, 4, 9])
                before = copy.deepcopy(weights)
                self.assertIs(is_rising(book, weights), plain_rising(size, weights))
                self.assertEqual(weights, before)

    def test_all_of_seven_things(self):
        weights = even_rising(7)
        self.assertTrue(is_rising(even_book(3, 7), weights))
        weights[tuple(range(7))] += 1
        self.assertFalse(is_rising(even_book(3, 7), weights))
        self.assertTrue(is_rising(even_book(1, 7), even_rising(7, GREAT)))


class Sums(unittest.TestCase):
    def test_by_hand(self):
        self.assertEqual(rising_sum(even_book(1, 1), {(): 0, (0,): 5}), {(((0,), 1),): -5})
        self.assertEqual(rising_sum(weights={(): 0, (0,): 2, (1,): 2, (0, 1): 3}, book=even_book(2, 2)),
                         {(((0,), 1),): -1, (((0, 1), 1),): -3, (((1,), 1),): -1})
        self.assertEqual(rising_sum(even_book(1, 2), even_rising(2, GREAT)), {(((0, 1), 1),): -3 * GREAT})

    def test_from_the_definition(self):
        for seed, book in enumerate(room_books(6) + [table_book(2, FANO), even_book(4, 7)]):
            weights = rising_weights(book.size, seed)
            before = copy.deepcopy(weights)
            found = rising_sum(book, weights)
            self.assertEqual(weights, before)
            self.assertEqual(found, wide_tidied(book, plain_rising_sum(book, weights)))
            self.assertEqual(list(found), sorted(found))
            self.assertNotIn(0, found.values())

    def test_added(self):
        for seed, book in enumerate(room_books(5)):
            one, other = rising_weights(book.size, seed), rising_weights(book.size, seed + 1)
            both = rising_sum(book, both_weights(one, other))
            first, second = rising_sum(book, one), rising_sum(book, other)
            total = {tower: first.get(tower, 0) + second.get(tower, 0) for tower in sorted({*first, *second})}
            self.assertEqual(both, {tower: number for tower, number in total.items() if number})
            self.assertEqual(len(lots_of(book.size)), len(one))

    def test_weights_that_do_not_rise(self):
        book = even_book(1, 2)
        for weights in [*ODDS, *NO_WEIGHTS, even_rising(1), even_rising(3), same_weights(2, 1), even_weights(2),
                        thing_weights([1, 1]), {(): 1, (0,): 3, (1,): 3, (0, 1): 4}]:
            with self.assertRaises(BadWeights):
                rising_sum(book, weights)


class Forms(unittest.TestCase):
    def test_by_hand(self):
        book = even_book(2, 2)
        self.assertEqual(wide_form(book, [], 1), ((-1, 0, 0), (0, 1, 0), (0, 0, -1)))
        self.assertEqual(wide_form(book, [letter(0), letter(0)], 0), ((-1,),))
        self.assertEqual(wide_form(degree=0, sums=({}, letter(0)), book=book), ((0,),))
        self.assertEqual(wide_form(even_book(1, 1), [bare_letter(even_book(1, 1))], 0), ((1,),))
        self.assertEqual(wide_form(even_book(1, 1), [{(((0,), 1),): GREAT}], 0), ((-GREAT,),))
        self.assertEqual(wide_form(even_book(1, 1), [{(((0,), 1),): 0}], 0), ((0,),))

    def test_from_last_numbers(self):
        for book, degree in wide_parts(5):
            many = book.rank - 2 * degree
            for sums in (chance_steps(book, many, degree), [rising_sum(book, even_rising(book.size))] * many):
                before = copy.deepcopy(sums)
                table = wide_form(book, sums, degree)
                self.assertEqual(sums, before)
                towers = wide_towers(book, degree)
                total = {(): 1}
                for one in sums:
                    total = wide_multiplied(book, total, one)
                self.assertIs(type(table), tuple)
                self.assertEqual((len(table), {len(row) for row in table}), (len(towers), {len(towers)}))
                for one, row in list(zip(towers, table))[::6]:
                    self.assertIs(type(row), tuple)
                    led = wide_multiplied(book, total, {one: 1})
                    for other, number in list(zip(towers, row))[::5]:
                        self.assertEqual(number, wide_last(book, wide_multiplied(book, led, {other: 1})))
                self.assertEqual(tuple(zip(*table)), table)

    def counts(self, book, degree):
        sizes = wide_sizes(book)
        more = sum((-1) ** k * (sizes[k] - (sizes[k - 1] if k else 0)) for k in range(degree + 1))
        plus = (sizes[degree] + more) // 2
        return plus, sizes[degree] - plus, 0

    def test_signs(self):
        for seed, (book, degree) in enumerate(wide_parts()):
            many = book.rank - 2 * degree
            sums = [rising_sum(book, rising_weights(book.size, seed + k)) for k in range(many)]
            table = wide_form(book, sums, degree)
            self.assertEqual(sign_counts(table), self.counts(book, degree))
            if len(table) < 30:
                self.assertNotEqual(determinant(table), 0)
            if many and len(table) < 50:
                table = wide_form(book, sums[:1] * many, degree)
                self.assertEqual(sign_counts(table), self.counts(book, degree))

    def test_signs_of_renamed_books(self):
        for book in room_books(4):
            for order in orders_of(book, 2):
                other = renamed(book, order)
                for degree in range(book.rank // 2 + 1):
                    sums = [rising_sum(other, rising_weights(book.size, k)) for k in range(book.rank - 2 * degree)]
                    self.assertEqual(sign_counts(wide_form(other, sums, degree)), self.counts(other, degree))

    def test_degrees_come_first(self):
        for book in (even_book(1, 1), even_book(2, 3), even_book(3, 3), even_book(4, 4)):
            beyond = book.rank // 2 + 1
            for degree in [*ODDS, -1, beyond, beyond + 1, book.rank + 1, GREAT]:
                with self.assertRaises(BadNumber) as caught:
                    wide_form(book, None, degree)
                self.assertEqual(caught.exception.part, "degree")

    def test_sums(self):
        book = even_book(3, 3)
        for sums in NO_STEPS:
            for degree in range(2):
                with self.assertRaises(BadSum):
                    wide_form(book, sums, degree)
        for degree in range(2):
            for many in range(6):
                if many != book.rank - 2 * degree:
                    with self.assertRaises(BadSum):
                        wide_form(book, [{}] * many, degree)
        with self.assertRaises(BadSum):
            wide_form(book, [{(): 0}], 1)
        self.assertEqual(len(wide_form(book, [{}], 1)), 7)


if __name__ == "__main__":
    unittest.main()

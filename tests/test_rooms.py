"""Points 31 and 32: sums of towers by the rules of the room, and their last numbers."""

import copy
import unittest
from random import Random

from flatrooms.alike import renamed
from flatrooms.books import Book
from flatrooms.errors import BadNumber, BadSum
from flatrooms.makers import even_book, table_book
from flatrooms.rooms import added, last_number, multiplied, powered, tidied
from flatrooms.towers import tidy_towers
from tests.roomhelp import (NO_TOWERS, all_towers, chance_tower, degree_of, everything, full_towers,
                            is_tidy, letter, plain_product, with_thing)
from tests.samples import FANO, ODDS, orders_of, plain_closure, plain_flats, plain_rank, room_books

NUMBERS = [-3, -1, 0, 1, 2, 10 ** 20]


def chance_sums(book, many, seed=9):
    """Sums of towers of several degrees, tidy or not, with numbers 0 and great ones among them."""
    chance = Random(seed)
    towers = [tower for degree in range(book.rank + 2) for tower in all_towers(book, degree)]
    return [{tower: chance.choice(NUMBERS) for tower in chance.sample(towers, min(len(towers), 6))}
            for _ in range(many)]


def ascends(towers):
    return list(towers) == sorted(towers) and 0 not in towers.values()


class Tidied(unittest.TestCase):
    def test_by_hand(self):
        book = even_book(2, 3)
        self.assertEqual(tidied(book, letter(0)), {(((0, 1, 2), 1),): -1})
        self.assertEqual(tidied(book, letter(0, 1, 2)), letter(0, 1, 2))
        self.assertEqual(tidied(book, {(((0,), 1),): 1, (((1,), 1),): -1}), {})
        self.assertEqual(tidied(towers={(): 4, (((2,), 1),): 2, (((0, 1, 2), 1),): 2}, book=book), {(): 4})
        self.assertEqual(tidied(book, {}), {})
        self.assertEqual(tidied(book, {(): 0, (((0,), 1),): 0}), {})
        self.assertEqual(tidied(book, letter(0, times=2)), {})
        three = even_book(3, 3)
        self.assertEqual(tidied(three, letter(0)), {(((0, 1), 1),): -1, (((0, 1, 2), 1),): -1, (((0, 2), 1),): -1})
        self.assertEqual(tidied(three, letter(0, times=2)), {(((0, 1, 2), 2),): -1})
        self.assertEqual(tidied(three, {(((0,), 1), ((0, 1), 1)): 5}), {(((0, 1, 2), 2),): 5})
        self.assertEqual(tidied(three, {(((0,), 1), ((0, 1, 2), 1)): 1}), {(((0, 1, 2), 2),): -1})
        self.assertEqual(tidied(three, {(((0, 1), 1), ((0, 1, 2), 1)): 1}), {})
        self.assertEqual(tidied(even_book(1, 4), {(): 3, (((0, 1, 2, 3), 1),): 9}), {(): 3})

    def test_tidy_towers_stay(self):
        for book in room_books(7):
            for degree in range(min(book.rank, 4)):
                for tower in tidy_towers(book, degree)[:40]:
                    self.assertEqual(tidied(book, {tower: 7}), {tower: 7})

    def test_all_comes_to_tidy_towers_of_the_same_degree(self):
        for book in room_books(5):
            for degree in range(book.rank + 1):
                for tower in all_towers(book, degree)[::7]:
                    for part in tidied(book, {tower: 1}):
                        self.assertTrue(is_tidy(book, part))
                        self.assertEqual(degree_of(part), degree)

    def test_letters_of_all_flats_that_have_a_thing(self):
        for book in room_books(4):
            for degree in range(book.rank):
                for tower in all_towers(book, degree):
                    for thing in range(book.size):
                        self.assertEqual(tidied(book, plain_product({tower: 1}, with_thing(book, thing))), {})

    def test_letters_of_all_flats_that_have_a_thing_of_greater_books(self):
        chance = Random(10)
        for book in room_books(7):
            if book.size < 5:
                continue
            flats = plain_flats(book)[1:]
            for degree in 3 * list(range(book.rank)):
                tower = chance_tower(flats, degree, chance)
                thing = chance.randrange(book.size)
                self.assertEqual(tidied(book, plain_product({tower: 3}, with_thing(book, thing))), {})

    def test_the_hint(self):
        for book in room_books(5):
            flats = [flat for flat in plain_flats(book) if flat]
            for low in [(), *flats]:
                for high in flats:
                    if set(low) < set(high):
                        rise = {((flat, 1),): 1 for flat in flats if set(high) <= set(flat)}
                        many = plain_rank(book, high) - plain_rank(book, low)
                        power = powered(book, rise, many)
                        first = letter(*low) if low else {(): 1}
                        self.assertEqual(multiplied(book, first, power), {})

    def test_sums_ascend_and_add_up(self):
        for book in room_books(5):
            for towers in chance_sums(book, 4):
                before = copy.deepcopy(towers)
                found = tidied(book, towers)
                self.assertEqual(towers, before)
                self.assertTrue(ascends(found))
                self.assertEqual(tidied(book, found), found)
                parts = {}
                for tower, number in towers.items():
                    parts = added(book, parts, {tower: 1}, number)
                self.assertEqual(parts, found)

    def test_great_times_are_nothing(self):
        for book in (even_book(1, 2), even_book(3, 5), even_book(7, 7), table_book(2, FANO)):
            for many in (book.rank, book.rank + 1, 1000, 10 ** 20):
                for flat in [(0,) if book.rank > 1 else (0, 1), everything(book)]:
                    self.assertEqual(tidied(book, letter(*flat, times=many)), {})

    def test_new_dicts(self):
        book = even_book(2, 2)
        towers = {(): 1}
        for made in (tidied(book, towers), multiplied(book, towers, towers), added(book, towers, towers, 1),
                     powered(book, towers, 0), powered(book, towers, 1)):
            made.clear()
        self.assertEqual(towers, {(): 1})
        self.assertEqual(powered(book, towers, 0), {(): 1})


class Products(unittest.TestCase):
    def test_letters_neither_of_which_lies_in_the_other(self):
        self.assertEqual(multiplied(even_book(3, 3), letter(0), letter(1)), {})
        self.assertEqual(multiplied(even_book(3, 3), letter(0, 1), letter(1, 2)), {})
        self.assertEqual(multiplied(even_book(3, 3), letter(0), letter(0, 1)), {(((0, 1, 2), 2),): 1})
        for book in room_books(5):
            flats = [flat for flat in plain_flats(book) if flat]
            for one in flats:
                for other in flats:
                    if not set(one) <= set(other) and not set(other) <= set(one):
                        self.assertEqual(multiplied(book, letter(*one), letter(*other)), {})

    def test_products_as_they_come(self):
        for book in room_books(6):
            if len(plain_flats(book)) > 40:
                continue
            sums = chance_sums(book, 5)
            for one, other, third in zip(sums, sums[1:], sums[2:]):
                before = copy.deepcopy((one, other))
                found = multiplied(book, one, other)
                self.assertEqual((one, other), before)
                self.assertTrue(ascends(found))
                self.assertEqual(found, tidied(book, plain_product(one, other)))
                self.assertEqual(found, multiplied(other=one, one=other, book=book))
                self.assertEqual(found, multiplied(book, tidied(book, one), tidied(book, other)))
                self.assertEqual(multiplied(book, found, third),
                                 multiplied(book, one, multiplied(book, other, third)))
                self.assertEqual(multiplied(book, added(book, one, other, -4), third),
                                 added(book, multiplied(book, one, third), multiplied(book, other, third), -4))

    def test_one_and_nothing(self):
        for book in room_books(5):
            for one in chance_sums(book, 3):
                self.assertEqual(multiplied(book, one, {(): 1}), tidied(book, one))
                self.assertEqual(multiplied(book, {}, one), {})
                self.assertEqual(multiplied(book, {(): 0}, one), {})

    def test_added(self):
        book = even_book(2, 3)
        self.assertEqual(added(book, letter(0), letter(1), 2), {(((0, 1, 2), 1),): -3})
        self.assertEqual(added(book, letter(0), letter(1), -1), {})
        self.assertEqual(added(times=0, other={(): 5}, one={(): 2}, book=book), {(): 2})
        self.assertEqual(added(book, {(): 1}, {(): 10 ** 20}, 10 ** 20), {(): 10 ** 40 + 1})
        self.assertEqual(added(book, {}, {}, 3), {})
        for book in room_books(5):
            one, other = chance_sums(book, 2)
            before = copy.deepcopy((one, other))
            found = added(book, one, other, -7)
            self.assertEqual((one, other), before)
            self.assertTrue(ascends(found))
            total = {tower: one.get(tower, 0) - 7 * other.get(tower, 0) for tower in [*one, *other]}
            self.assertEqual(found, tidied(book, total))

    def test_powered(self):
        for book in room_books(5):
            for one in chance_sums(book, 3):
                before = copy.deepcopy(one)
                product = {(): 1}
                for many in range(5):
                    self.assertEqual(powered(book, one, many), product)
                    product = multiplied(book, product, one)
                self.assertEqual(one, before)

    def test_great_powers(self):
        book = even_book(3, 4)
        self.assertEqual(powered(book, letter(0, 1, 2, 3), 10 ** 20), {})
        self.assertEqual(powered(book, {(): 1}, 10 ** 20), {(): 1})
        self.assertEqual(powered(book, {}, 10 ** 20), {})
        self.assertEqual(powered(many=0, one={}, book=book), {(): 1})
        many = 10 ** 9
        self.assertEqual(powered(book, {(): 1, **letter(0, 1, 2, 3)}, many),
                         {(): 1, (((0, 1, 2, 3), 1),): many, (((0, 1, 2, 3), 2),): many * (many - 1) // 2})


class Last(unittest.TestCase):
    def test_by_hand(self):
        book = even_book(2, 3)
        self.assertEqual(last_number(book, letter(1)), 1)
        self.assertEqual(last_number(book, letter(0, 1, 2)), -1)
        self.assertEqual(last_number(towers={(((1,), 1),): 3, (((0, 1, 2), 1),): 5}, book=book), -2)
        self.assertEqual(last_number(book, {}), 0)
        self.assertEqual(last_number(book, {(((0,), 1),): 0}), 0)
        self.assertEqual(last_number(even_book(1, 3), {(): 6}), 6)
        self.assertEqual(last_number(even_book(1, 3), {}), 0)
        self.assertEqual(last_number(even_book(3, 3), letter(0, times=2)), -1)
        self.assertEqual(last_number(even_book(3, 3), letter(0, 1, 2, times=2)), 1)
        self.assertEqual(last_number(even_book(3, 3), {(((0,), 1), ((0, 1, 2), 1)): 1}), -1)

    def test_full_towers(self):
        for book in room_books(6):
            for tower in full_towers(book)[:50]:
                self.assertEqual(last_number(book, {tower: 1}), 1)

    def test_the_number_of_the_last_tidy_tower(self):
        for book in room_books(5):
            last = ((everything(book), book.rank - 1),) if book.rank > 1 else ()
            for tower in all_towers(book, book.rank - 1)[::5]:
                found = tidied(book, {tower: 1})
                self.assertLessEqual(set(found), {last})
                self.assertEqual(last_number(book, {tower: 1}), found.get(last, 0) * (-1) ** (book.rank - 1))

    def test_sums_of_numbers(self):
        chance = Random(11)
        for book in room_books(5):
            towers = all_towers(book, book.rank - 1)
            some = {tower: chance.choice(NUMBERS) for tower in chance.sample(towers, min(len(towers), 9))}
            before = dict(some)
            told = sum(number * last_number(book, {tower: 1}) for tower, number in some.items())
            self.assertEqual(last_number(book, some), told)
            self.assertEqual(some, before)

    def test_renamed(self):
        for book in room_books(5):
            for order in orders_of(book, 2):
                for tower in all_towers(book, book.rank - 1)[::9]:
                    moved = tuple((tuple(sorted(order[x] for x in flat)), times) for flat, times in tower)
                    self.assertEqual(last_number(renamed(book, order), {moved: 1}), last_number(book, {tower: 1}))

    def test_only_sums_of_the_last_degree(self):
        book = even_book(3, 3)
        for towers in [{(): 1}, letter(0), letter(0, times=3), {**letter(0, times=2), (): 0},
                       {**letter(0, times=2), **letter(0, 1)}, {(((0,), 1), ((0, 1, 2), 2)): 0}]:
            with self.assertRaises(BadSum):
                last_number(book, towers)
        with self.assertRaises(BadSum):
            last_number(even_book(1, 1), letter(0))


class Wrong(unittest.TestCase):
    def calls(self, book, thing):
        return [lambda: tidied(book, thing), lambda: multiplied(book, thing, {}), lambda: multiplied(book, {}, thing),
                lambda: added(book, thing, {}, "x"), lambda: added(book, {}, thing, "x"),
                lambda: powered(book, thing, "x"), lambda: last_number(book, thing)]

    def test_no_sums(self):
        book = even_book(3, 3)
        wrong = [thing for thing in ODDS if thing != {}] + [0, [], (), [{}], ({},), {()}, "x"]
        wrong += [{tower: 1} for tower in NO_TOWERS] + [{tower: 0} for tower in NO_TOWERS]
        wrong += [{(((0,), 2),): number} for number in (None, True, "1", 1.0, [1], (1,), {})]
        wrong += [{**letter(0, times=2), None: 1}]
        for thing in wrong:
            for call in self.calls(book, thing):
                with self.assertRaises(BadSum):
                    call()

    def test_flats_of_this_book(self):
        book = table_book(2, FANO)
        for flat in [(), (0, 1), (0, 1, 2), (0, 1, 2, 3, 4, 5)]:
            for call in self.calls(book, {((flat, 2),): 1}):
                with self.assertRaises(BadSum):
                    call()
        self.assertEqual(last_number(book, letter(0, 1, 3, times=2)), -1)

    def test_numbers(self):
        book = even_book(2, 3)
        for times in ODDS:
            with self.assertRaises(BadNumber) as caught:
                added(book, {}, {}, times)
            self.assertEqual(caught.exception.part, "times")
        for many in [*ODDS, -1, -10 ** 20]:
            with self.assertRaises(BadNumber) as caught:
                powered(book, {}, many)
            self.assertEqual(caught.exception.part, "many")

    def test_books_with_no_room_come_first(self):
        for call in self.calls(Book(0, [()]), None):
            with self.assertRaises(ValueError) as caught:
                call()
            self.assertEqual(caught.exception.part, "rank")

    def test_closures_are_what_the_letters_want(self):
        book = even_book(3, 5)
        self.assertEqual(plain_closure(book, (0, 1, 2)), everything(book))
        with self.assertRaises(BadSum):
            tidied(book, letter(0, 1, 2))


if __name__ == "__main__":
    unittest.main()

"""Points 70, 71 and 73: the wider room."""

import copy
import unittest
from math import factorial, prod
from random import Random

from flatrooms.alike import renamed
from flatrooms.errors import BadNumber, BadSum
from flatrooms.flats import above, flats
from flatrooms.makers import even_book, table_book
from flatrooms.ranks import free_lots
from flatrooms.rooms import tidied
from flatrooms.towers import room_sizes
from flatrooms.wides import wide_last, wide_multiplied, wide_powered, wide_sizes, wide_tidied, wide_towers
from flatrooms.widesums import bare_letter, lot_letter, thing_letter
from tests.roomhelp import (NO_TOWERS, all_towers, chance_sum, chance_tower, degree_of, everything, letter,
                            plain_product, prime_rank, rows_of, with_thing)
from tests.samples import FANO, ODDS, orders_of, plain_rank, room_books
from tests.test_letters import sums_of
from tests.weighthelp import GREAT
from tests.widehelp import plain_bare, plain_letters, plain_thing, wide_nothings


def is_wide_tidy(book, tower):
    behind = -1
    for flat, times in tower:
        rank = plain_rank(book, flat)
        if times >= rank - behind:
            return False
        behind = rank
    return True


class Towers(unittest.TestCase):
    def test_by_hand(self):
        self.assertEqual(wide_towers(even_book(1, 1), 0), [()])
        self.assertEqual(wide_towers(even_book(1, 1), 1), [(((0,), 1),)])
        self.assertEqual(wide_towers(degree=1, book=even_book(2, 2)), [(((0,), 1),), (((0, 1), 1),), (((1,), 1),)])
        self.assertEqual(wide_towers(even_book(2, 2), 2), [(((0, 1), 2),)])
        self.assertIn((((0,), 1), ((0, 1, 2), 1)), wide_towers(even_book(3, 3), 2))
        self.assertNotIn((((0,), 1), ((0, 1), 1)), wide_towers(even_book(3, 3), 2))
        self.assertNotIn((((0,), 2),), wide_towers(even_book(3, 3), 2))
        self.assertIn((((0, 1), 2),), wide_towers(even_book(3, 3), 2))

    def test_from_the_definition(self):
        for book in room_books(5):
            if book.rank > 4:
                continue
            for degree in range(book.rank + 2):
                found = wide_towers(book, degree)
                self.assertIs(type(found), list)
                self.assertEqual(found, sorted(tower for tower in all_towers(book, degree)
                                               if is_wide_tidy(book, tower)))

    def test_degrees_beyond(self):
        for book in room_books(6):
            self.assertEqual(wide_towers(book, 0), [()])
            self.assertEqual(wide_towers(book, book.rank), [((everything(book), book.rank),)])
            for degree in (book.rank + 1, book.rank + 2, 50, GREAT):
                self.assertEqual(wide_towers(book, degree), [])

    def test_sizes_by_hand(self):
        self.assertEqual(wide_sizes(even_book(1, 1)), (1, 1))
        self.assertEqual(wide_sizes(book=even_book(1, 7)), (1, 1))
        self.assertEqual(wide_sizes(even_book(2, 2)), (1, 3, 1))
        self.assertEqual(wide_sizes(even_book(2, 3)), (1, 4, 1))
        self.assertEqual(wide_sizes(even_book(3, 3)), (1, 7, 7, 1))
        self.assertEqual(wide_sizes(even_book(6, 6)), (1, 63, 473, 883, 473, 63, 1))

    def test_sizes(self):
        for book in room_books(6) + [table_book(2, FANO), even_book(3, 7), even_book(4, 7)]:
            row = wide_sizes(book)
            self.assertIs(type(row), tuple)
            self.assertEqual(row, tuple(len(wide_towers(book, degree)) for degree in range(book.rank + 1)))
            self.assertEqual(row, row[::-1])
            told = [0] * (book.rank + 1)
            for rank, lots in enumerate(flats(book)):
                for flat in lots:
                    for at, number in enumerate(room_sizes(above(book, flat)) if rank < book.rank else (1,)):
                        told[rank + at] += number
            self.assertEqual(row, tuple(told))

    def test_towers_by_the_rules(self):
        # As many as there are towers free of one another, once the rules are taken as 0 (modulo a prime).
        for book in room_books(4):
            if book.rank > 3:
                continue
            nothings = wide_nothings(book)
            for degree in range(book.rank + 2):
                towers = all_towers(book, degree)
                rules = [plain_product({tower: 1}, nothing) for tower in all_towers(book, degree - 2)
                         for nothing in nothings] if degree > 1 else []
                self.assertEqual(len(towers) - prime_rank(rows_of(rules, towers)), len(wide_towers(book, degree)))

    def test_degrees(self):
        for degree in [*ODDS, -1, -GREAT]:
            with self.assertRaises(BadNumber) as caught:
                wide_towers(even_book(2, 3), degree)
            self.assertEqual(caught.exception.part, "degree")


class Tidied(unittest.TestCase):
    def test_by_hand(self):
        book = even_book(2, 2)
        self.assertEqual(wide_tidied(book, letter(0)), letter(0))
        self.assertEqual(wide_tidied(book, letter(0, times=2)), {(((0, 1), 2),): -1})
        self.assertEqual(wide_tidied(book, {(((0,), 1), ((0, 1), 1)): 1}), {})
        self.assertEqual(wide_tidied(book, letter(0, 1, times=2)), letter(0, 1, times=2))
        self.assertEqual(wide_tidied(book, letter(0, 1, times=3)), {})
        self.assertEqual(wide_tidied(towers={(): 0, (((1,), 1),): GREAT}, book=book), {(((1,), 1),): GREAT})
        self.assertEqual(wide_tidied(even_book(1, 3), letter(0, 1, 2)), letter(0, 1, 2))
        self.assertEqual(wide_tidied(even_book(1, 3), letter(0, 1, 2, times=2)), {})

    def test_tidy_towers_stay(self):
        for book in room_books(6):
            for degree in range(book.rank + 1):
                for tower in wide_towers(book, degree)[:20]:
                    self.assertEqual(wide_tidied(book, {tower: -7}), {tower: -7})

    def test_all_comes_to_wide_tidy_towers(self):
        for seed, book in enumerate(room_books(5)):
            for k in range(3):
                towers = sums_of(book, seed + k, range(book.rank + 2))
                before = copy.deepcopy(towers)
                found = wide_tidied(book, towers)
                self.assertEqual(towers, before)
                self.assertEqual(list(found), sorted(found))
                self.assertNotIn(0, found.values())
                self.assertTrue(all(is_wide_tidy(book, tower) for tower in found))
                self.assertEqual(wide_tidied(book, found), found)
                parts = {}
                for tower, number in towers.items():
                    for part, many in wide_tidied(book, {tower: number}).items():
                        self.assertEqual(degree_of(part), degree_of(tower))
                        parts[part] = parts.get(part, 0) + many
                self.assertEqual({part: many for part, many in parts.items() if many}, found)

    def test_the_rules(self):
        chance = Random(61)
        for book in room_books(5) + [even_book(6, 6), table_book(2, FANO), even_book(3, 6)]:
            letters = plain_letters(book)
            nothings = wide_nothings(book)
            for degree in range(book.rank):
                tower = chance_tower(letters, degree, chance)
                for nothing in chance.sample(nothings, min(len(nothings), 12)):
                    self.assertEqual(wide_tidied(book, plain_product({tower: 5}, nothing)), {})

    def test_the_hint(self):
        for book in room_books(4) + [even_book(3, 5), table_book(2, FANO)]:
            letters = plain_letters(book)
            for high in letters:
                rise = {((flat, 1),): 1 for flat in letters if set(high) <= set(flat)}
                rank = plain_rank(book, high)
                self.assertEqual(wide_powered(book, rise, rank + 1), {})
                self.assertNotEqual(wide_powered(book, rise, rank), {})
                for low in letters:
                    if set(low) < set(high):
                        power = wide_powered(book, rise, rank - plain_rank(book, low))
                        self.assertEqual(wide_multiplied(book, letter(*low), power), {})

    def test_great_times(self):
        for book in (even_book(1, 2), even_book(3, 5), table_book(2, FANO)):
            for many in (book.rank + 1, 1000, GREAT):
                self.assertEqual(wide_tidied(book, letter(*everything(book), times=many)), {})
            self.assertEqual(len(wide_tidied(book, letter(*everything(book), times=book.rank))), 1)


class RoomWithin(unittest.TestCase):
    def test_tidied_of_wide_tidied(self):
        for seed, book in enumerate(room_books(5)):
            for k in range(3):
                towers = sums_of(book, seed + k, range(book.rank + 2))
                self.assertEqual(tidied(book, wide_tidied(book, towers)), tidied(book, towers))

    def test_what_the_room_makes_nothing(self):
        for book in room_books(5):
            if max(wide_sizes(book)) > 70:
                continue
            sizes = (*room_sizes(book), 0)
            for degree in range(1, book.rank + 1):
                towers = wide_towers(book, degree)
                made = [wide_multiplied(book, thing_letter(book, thing), {tower: 1})
                        for thing in range(book.size) for tower in wide_towers(book, degree - 1)]
                self.assertEqual(prime_rank(rows_of(made, towers)), len(towers) - sizes[degree])
                for one in made[::3]:
                    self.assertEqual(tidied(book, one), {})


class Products(unittest.TestCase):
    def test_by_hand(self):
        book = even_book(2, 2)
        self.assertEqual(wide_multiplied(book, letter(0), letter(1)), {})
        self.assertEqual(wide_multiplied(book, letter(0), letter(0)), {(((0, 1), 2),): -1})
        self.assertEqual(wide_multiplied(other={(): 3}, one=letter(0), book=book), {(((0,), 1),): 3})
        self.assertEqual(wide_powered(many=2, one=letter(0), book=book), {(((0, 1), 2),): -1})
        self.assertEqual(wide_powered(book, letter(0), 0), {(): 1})
        self.assertEqual(wide_powered(book, {}, 0), {(): 1})
        self.assertEqual(wide_powered(book, {}, GREAT), {})
        self.assertEqual(wide_powered(book, letter(0), GREAT), {})

    def test_products_as_they_come(self):
        for seed, book in enumerate(room_books(5)):
            one, other, third = (sums_of(book, seed + k) for k in (0, 20, 40))
            before = copy.deepcopy((one, other))
            found = wide_multiplied(book, one, other)
            self.assertEqual((one, other), before)
            self.assertEqual(list(found), sorted(found))
            self.assertNotIn(0, found.values())
            self.assertEqual(found, wide_tidied(book, plain_product(one, other)))
            self.assertEqual(found, wide_multiplied(book, other, one))
            self.assertEqual(wide_multiplied(book, found, third),
                             wide_multiplied(book, one, wide_multiplied(book, other, third)))

    def test_powers(self):
        for seed, book in enumerate(room_books(5)):
            one = sums_of(book, seed)
            product = {(): 1}
            for many in range(4):
                self.assertEqual(wide_powered(book, one, many), product)
                product = wide_multiplied(book, product, one)


class Last(unittest.TestCase):
    def test_by_hand(self):
        self.assertEqual(wide_last(even_book(1, 1), letter(0)), -1)
        self.assertEqual(wide_last(even_book(1, 1), {}), 0)
        self.assertEqual(wide_last(even_book(2, 2), letter(0, 1, times=2)), 1)
        self.assertEqual(wide_last(towers=letter(0, times=2), book=even_book(2, 2)), -1)
        self.assertEqual(wide_last(even_book(2, 2), {(((0,), 1), ((0, 1), 1)): GREAT}), 0)
        self.assertEqual(wide_last(even_book(2, 2), {(((0,), 2),): 0}), 0)

    def test_the_number_of_the_last_tidy_tower(self):
        for book in room_books(5):
            last = ((everything(book), book.rank),)
            towers = all_towers(book, book.rank)
            for seed in range(3):
                some = chance_sum(towers, seed)
                number = wide_tidied(book, some).get(last, 0) * (-1) ** book.rank
                self.assertEqual(wide_last(book, some), number)

    def test_bases(self):
        for book in room_books(6):
            for base in book.bases[:5]:
                self.assertEqual(wide_last(book, lot_letter(book, base)), 1)

    def test_bare_times_full_chains(self):
        for book in room_books(6):
            chance = Random(62)
            for _ in range(4):
                chain = [()]
                for lots in flats(book)[1:-1]:
                    chain.append(chance.choice([flat for flat in lots if set(chain[-1]) < set(flat)]))
                tower = tuple((flat, 1) for flat in chain[1:])
                self.assertEqual(wide_last(book, wide_multiplied(book, bare_letter(book), {tower: 1})), 1)
                plain = plain_product(plain_bare(book), {tower: 1})
                self.assertEqual(wide_last(book, plain), 1)

    def test_sums_of_things_and_all_things(self):
        chance = Random(63)
        for book in room_books(6) + [table_book(2, FANO)]:
            for low in (-4, 0):
                numbers = [chance.randint(low, 5) for _ in range(book.size)]
                total = {}
                for thing in range(book.size):
                    for tower, number in plain_thing(book, thing).items():
                        total[tower] = total.get(tower, 0) + numbers[thing] * number
                less = {((everything(book), 1),): -1}
                row = []
                for k in range(book.rank + 1):
                    product = wide_multiplied(book, wide_powered(book, total, k),
                                              wide_powered(book, less, book.rank - k))
                    row.append(wide_last(book, product))
                    told = factorial(k) * sum(prod(numbers[thing] for thing in lot)
                                              for lot in free_lots(book) if len(lot) == k)
                    self.assertEqual(row[k], told)
                if low == 0:
                    for k in range(1, book.rank):
                        self.assertGreaterEqual(row[k] ** 2, row[k - 1] * row[k + 1])

    def test_renamed(self):
        for book in room_books(4):
            for order in orders_of(book, 3):
                for tower in all_towers(book, book.rank)[::5]:
                    moved = tuple((tuple(sorted(order[x] for x in flat)), times) for flat, times in tower)
                    self.assertEqual(wide_last(renamed(book, order), {moved: 1}), wide_last(book, {tower: 1}))

    def test_only_sums_of_the_last_degree(self):
        book = even_book(2, 3)
        for towers in [{(): 1}, {(): 0}, letter(0), {(((0,), 1),): 0}, letter(0, times=3),
                       {**letter(0, times=2), (((1,), 1),): 0}]:
            with self.assertRaises(BadSum):
                wide_last(book, towers)


class Wrong(unittest.TestCase):
    def test_no_sums(self):
        book = even_book(3, 3)
        wrong = [thing for thing in ODDS if thing != {}] + [0, [], [{}]] + [{tower: 1} for tower in NO_TOWERS]
        for thing in [*wrong, {(): True}, {(((0, 1), 1),): None}]:
            for call in (lambda: wide_tidied(book, thing), lambda: wide_multiplied(book, thing, {}),
                         lambda: wide_multiplied(book, {}, thing), lambda: wide_powered(book, thing, "x"),
                         lambda: wide_last(book, thing)):
                with self.assertRaises(BadSum):
                    call()

    def test_many(self):
        for many in [*ODDS, -1, -GREAT]:
            with self.assertRaises(BadNumber) as caught:
                wide_powered(even_book(2, 3), {}, many)
            self.assertEqual(caught.exception.part, "many")

    def test_the_rules_of_the_room_do_not_hold(self):
        book = even_book(2, 3)
        self.assertNotEqual(wide_tidied(book, with_thing(book, 0)), {})
        self.assertEqual(tidied(book, with_thing(book, 0)), {})


if __name__ == "__main__":
    unittest.main()

"""Point 72: the further letters of the wider room, and the flats within."""

import unittest
from functools import reduce

from flatrooms.alike import renamed
from flatrooms.errors import BadLot, BadThing
from flatrooms.flats import flats
from flatrooms.makers import even_book, table_book
from flatrooms.wides import wide_last, wide_multiplied, wide_tidied, wide_towers
from flatrooms.widesums import bare_letter, lot_letter, thing_letter
from tests.roomhelp import everything, letter, plain_product, prime_rank, rows_of
from tests.samples import FANO, ODDS, orders_of, parts_of, plain_closure, plain_rank, room_books
from tests.widehelp import plain_bare, plain_letters, plain_thing


def base_of(book, flat):
    """A free lot whose closure the flat is."""
    found = ()
    for thing in flat:
        if plain_rank(book, (*found, thing)) > len(found):
            found = (*found, thing)
    return found


class Letters(unittest.TestCase):
    def test_by_hand(self):
        book = even_book(1, 1)
        self.assertEqual(thing_letter(book, 0), {(((0,), 1),): -1})
        self.assertEqual(bare_letter(book), {(((0,), 1),): -1})
        self.assertEqual((wide_last(book, thing_letter(book, 0)), wide_last(book, bare_letter(book))), (1, 1))
        self.assertEqual(lot_letter(even_book(2, 2), (0, 1)), {(((0, 1), 2),): 1})
        self.assertEqual(lot_letter(even_book(2, 3), (0, 1, 2)), {})
        self.assertEqual(lot_letter(lot=(), book=even_book(2, 3)), {(): 1})
        self.assertEqual(thing_letter(thing=1, book=even_book(2, 2)), {(((0, 1), 1),): -1, (((1,), 1),): -1})
        self.assertEqual(bare_letter(book=even_book(2, 2)), {(((0,), 1),): -1, (((0, 1), 1),): -1, (((1,), 1),): -1})
        self.assertEqual(thing_letter(even_book(1, 7), 6), {((tuple(range(7)), 1),): -1})
        self.assertEqual(lot_letter(even_book(1, 2), (0, 1)), {})

    def test_from_the_definition(self):
        for book in room_books(6) + [table_book(2, FANO)]:
            for thing in range(book.size):
                found = thing_letter(book, thing)
                self.assertEqual(found, wide_tidied(book, plain_thing(book, thing)))
                self.assertEqual(list(found), sorted(found))
            self.assertEqual(bare_letter(book), wide_tidied(book, plain_bare(book)))
            self.assertEqual(list(bare_letter(book)), sorted(bare_letter(book)))

    def test_lots_from_the_definition(self):
        for book in room_books(4):
            for lot in parts_of(range(book.size)):
                product = reduce(plain_product, [plain_thing(book, thing) for thing in lot], {(): 1})
                found = lot_letter(book, lot)
                self.assertEqual(found, wide_tidied(book, product))
                self.assertEqual(list(found), sorted(found))
                self.assertNotIn(0, found.values())

    def test_the_rules(self):
        for book in room_books(6):
            for thing in range(book.size):
                one = thing_letter(book, thing)
                self.assertEqual(wide_multiplied(book, one, bare_letter(book)), {})
                for flat in plain_letters(book)[::3]:
                    if thing not in flat:
                        self.assertEqual(wide_multiplied(book, one, letter(*flat)), {})

    def test_new_dicts(self):
        for made in (lambda: thing_letter(even_book(2, 2), 0), lambda: bare_letter(even_book(2, 2)),
                     lambda: lot_letter(even_book(2, 2), ())):
            before = dict(made())
            made().clear()
            self.assertEqual(made(), before)

    def test_renamed(self):
        for book in room_books(4):
            for order in orders_of(book, 3):
                other = renamed(book, order)
                for thing in range(book.size):
                    moved = {tuple((tuple(sorted(order[x] for x in flat)), times) for flat, times in tower): number
                             for tower, number in thing_letter(book, thing).items()}
                    self.assertEqual(wide_tidied(other, moved), thing_letter(other, order[thing]))


class FlatsWithin(unittest.TestCase):
    def test_bound_lots(self):
        for book in room_books(5):
            for lot in parts_of(range(book.size)):
                self.assertEqual(lot_letter(book, lot) == {}, plain_rank(book, lot) < len(lot))

    def test_free_lots_with_one_closure(self):
        for book in room_books(5):
            known = {}
            for lot in parts_of(range(book.size)):
                if plain_rank(book, lot) == len(lot):
                    found = lot_letter(book, lot)
                    self.assertEqual(known.setdefault(plain_closure(book, lot), found), found)

    def test_free_of_one_another(self):
        for book in room_books(5) + [table_book(2, FANO)]:
            for rank, lots in enumerate(flats(book)):
                rows = rows_of([lot_letter(book, base_of(book, flat)) for flat in lots], wide_towers(book, rank))
                self.assertEqual(prime_rank(rows), len(lots))

    def test_products(self):
        for book in room_books(5):
            letters = {flat: lot_letter(book, base_of(book, flat)) for flat in [(), *plain_letters(book)]}
            for one in letters:
                for other in list(letters)[::2]:
                    both = plain_closure(book, {*one, *other})
                    ranks = plain_rank(book, one) + plain_rank(book, other)
                    product = wide_multiplied(book, letters[one], letters[other])
                    self.assertEqual(product, letters[both] if ranks == plain_rank(book, both) else {})

    def test_all_things(self):
        for book in room_books(6):
            found = lot_letter(book, book.bases[0])
            self.assertEqual(found, {((everything(book), book.rank),): (-1) ** book.rank})


class Wrong(unittest.TestCase):
    def test_things(self):
        for book in (even_book(1, 1), even_book(2, 3)):
            for thing in [*ODDS, -1, book.size, 10 ** 20, (0,)]:
                with self.assertRaises(BadThing):
                    thing_letter(book, thing)

    def test_lots(self):
        book = even_book(2, 3)
        for lot in [*ODDS, 0, [], [0], [0, 1], (3,), (-1,), (1, 0), (0, 0), (0, True), (0, 1, 2, 3), (0, "1")]:
            with self.assertRaises(BadLot):
                lot_letter(book, lot)


if __name__ == "__main__":
    unittest.main()

"""Point 51: the numbers of towers, told without the room."""

import unittest
from random import Random

from flatrooms.alike import renamed
from flatrooms.errors import BadTower
from flatrooms.makers import even_book, table_book
from flatrooms.rooms import last_number
from flatrooms.towernumbers import tower_number
from tests.roomhelp import NO_TOWERS, all_towers, chance_tower, everything, full_towers
from tests.samples import FANO, ODDS, orders_of, plain_flats, room_books


class Numbers(unittest.TestCase):
    def test_by_hand(self):
        book = even_book(3, 3)
        self.assertEqual(tower_number(book, (((0,), 2),)), -1)
        self.assertEqual(tower_number(book, (((0,), 1), ((0, 1, 2), 1))), -1)
        self.assertEqual(tower_number(tower=(((0,), 1), ((0, 1), 1)), book=book), 1)
        self.assertEqual(tower_number(book, (((0, 1), 2),)), -1)
        self.assertEqual(tower_number(book, (((0, 1), 1), ((0, 1, 2), 1))), 0)
        self.assertEqual(tower_number(book, (((0, 1, 2), 2),)), 1)
        self.assertEqual(tower_number(even_book(1, 1), ()), 1)
        self.assertEqual(tower_number(even_book(1, 7), ()), 1)
        self.assertEqual(tower_number(even_book(2, 3), (((0, 1, 2), 1),)), -1)
        self.assertEqual(tower_number(even_book(2, 3), (((2,), 1),)), 1)
        self.assertEqual(tower_number(table_book(2, FANO), (((0,), 2),)), -2)
        self.assertEqual(tower_number(even_book(4, 4), (((0,), 3),)), 1)
        self.assertEqual(tower_number(even_book(4, 4), (((0, 1), 3),)), 2)

    def test_all_towers_of_small_books(self):
        for book in room_books(5):
            for tower in all_towers(book, book.rank - 1):
                self.assertEqual(tower_number(book, tower), last_number(book, {tower: 1}))

    def test_towers_of_greater_books(self):
        chance = Random(31)
        for book in room_books(7):
            if book.size < 6:
                continue
            flats = plain_flats(book)[1:]
            towers = [chance_tower(flats, book.rank - 1, chance) for _ in range(20)]
            for tower in {*towers, ((everything(book), book.rank - 1),) if book.rank > 1 else ()}:
                self.assertEqual(tower_number(book, tower), last_number(book, {tower: 1}))

    def test_full_towers(self):
        for book in room_books(6):
            for tower in full_towers(book)[:40]:
                self.assertEqual(tower_number(book, tower), 1)

    def test_all_things_alone(self):
        for book in room_books(7):
            if book.rank > 1:
                number = tower_number(book, ((everything(book), book.rank - 1),))
                self.assertEqual(number, (-1) ** (book.rank - 1))

    def test_renamed(self):
        for book in room_books(4):
            for order in orders_of(book, 3):
                for tower in all_towers(book, book.rank - 1):
                    moved = tuple((tuple(sorted(order[x] for x in flat)), times) for flat, times in tower)
                    self.assertEqual(tower_number(renamed(book, order), moved), tower_number(book, tower))


class Wrong(unittest.TestCase):
    def test_any_value(self):
        lists = [[], [((0,), 2)], ([(0,), 2],), (([0], 2),), [[[0], 2]], (((0,), [2]),), (((0,), (2,)),)]
        for thing in [*ODDS, *NO_TOWERS, *lists, 0, {(((0,), 2),): 1}]:
            for book in (even_book(3, 3), even_book(4, 4)):
                with self.assertRaises(BadTower):
                    tower_number(book, thing)

    def test_towers_of_another_degree(self):
        for book in room_books(4):
            for degree in range(book.rank + 2):
                if degree != book.rank - 1:
                    for tower in all_towers(book, degree):
                        with self.assertRaises(BadTower):
                            tower_number(book, tower)
        with self.assertRaises(BadTower):
            tower_number(even_book(3, 3), (((0,), 10 ** 20),))
        with self.assertRaises(BadTower):
            tower_number(even_book(1, 2), (((0, 1), 1),))

    def test_flats_of_this_book(self):
        with self.assertRaises(BadTower):
            tower_number(table_book(2, FANO), (((0, 1), 2),))
        with self.assertRaises(BadTower):
            tower_number(even_book(2, 3), (((0, 1), 1),))
        self.assertEqual(tower_number(table_book(2, FANO), (((0, 1, 3), 2),)), -1)


if __name__ == "__main__":
    unittest.main()

"""Point 42: opposite parts of the room."""

import copy
import unittest
from random import Random

from flatrooms.alike import renamed
from flatrooms.errors import BadNumber, BadTable
from flatrooms.makers import even_book, table_book
from flatrooms.pairing import opposite_table, told_by_last
from flatrooms.rooms import last_number, multiplied
from flatrooms.tables import determinant, sign_counts
from flatrooms.towers import room_sizes, tidy_towers
from tests.samples import FANO, ODDS, orders_of, room_books


class Opposite(unittest.TestCase):
    def test_by_hand(self):
        book = even_book(2, 3)
        self.assertEqual(opposite_table(book, 0), ((-1,),))
        self.assertEqual(opposite_table(degree=1, book=book), ((-1,),))
        self.assertEqual(opposite_table(even_book(1, 4), 0), ((1,),))
        self.assertEqual(opposite_table(even_book(3, 3), 0), ((1,),))
        self.assertEqual(opposite_table(even_book(3, 3), 1),
                         ((-1, 0, 0, 0), (0, 1, 0, 0), (0, 0, -1, 0), (0, 0, 0, -1)))

    def test_last_numbers_of_products(self):
        for book in room_books(5):
            for degree in range(book.rank):
                table = opposite_table(book, degree)
                self.assertIs(type(table), tuple)
                ones, others = tidy_towers(book, degree), tidy_towers(book, book.rank - 1 - degree)
                self.assertEqual((len(table), {len(row) for row in table}), (len(ones), {len(others)}))
                for one, row in list(zip(ones, table))[::3]:
                    self.assertIs(type(row), tuple)
                    for other, number in list(zip(others, row))[::5]:
                        self.assertEqual(number, last_number(book, multiplied(book, {one: 1}, {other: 1})))
                opposite = opposite_table(book, book.rank - 1 - degree)
                self.assertEqual(tuple(zip(*opposite)), table)

    def test_nothing_is_lost(self):
        for book in room_books(6) + [table_book(2, FANO), even_book(4, 7), even_book(2, 7)]:
            sizes = room_sizes(book)
            for degree in range(book.rank):
                self.assertEqual(sizes[degree], sizes[book.rank - 1 - degree])
                if sizes[degree] < 120:
                    self.assertIn(determinant(opposite_table(book, degree)), (1, -1))

    def test_signs_of_the_middle(self):
        for book in room_books(6):
            if book.rank in (3, 5):
                half = book.rank // 2
                sizes = room_sizes(book)
                counts = [0, 0]
                for k in range(half + 1):
                    counts[k % 2] += sizes[k] - (sizes[k - 1] if k else 0)
                self.assertEqual(sign_counts(opposite_table(book, half)), (*counts, 0))

    def test_renamed(self):
        for book in room_books(4):
            for order in orders_of(book, 2):
                other = renamed(book, order)
                for degree in range(book.rank):
                    self.assertEqual(abs(determinant(opposite_table(other, degree))), 1)


class Told(unittest.TestCase):
    def test_by_hand(self):
        book = even_book(2, 3)
        self.assertEqual(told_by_last(book, 0, [5]), {(): -5})
        self.assertEqual(told_by_last(numbers=(5,), degree=1, book=book), {(((0, 1, 2), 1),): -5})
        self.assertEqual(told_by_last(book, 1, [0]), {})
        self.assertEqual(told_by_last(even_book(1, 1), 0, [10 ** 20]), {(): 10 ** 20})
        self.assertEqual(told_by_last(even_book(3, 3), 1, [1, 2, 3, 0]),
                         {(((0, 1), 1),): -1, (((0, 1, 2), 1),): 2, (((0, 2), 1),): -3})

    def test_just_one_sum(self):
        chance = Random(16)
        for book in room_books(6) + [table_book(2, FANO), even_book(3, 7)]:
            for degree in range(book.rank):
                towers = tidy_towers(book, degree)
                others = tidy_towers(book, book.rank - 1 - degree)
                if len(towers) > 60:
                    continue
                numbers = [chance.choice([0, 0, 1, -2, 10 ** 20]) for _ in others]
                before = copy.deepcopy(numbers)
                found = told_by_last(book, degree, numbers)
                self.assertEqual(numbers, before)
                self.assertEqual(list(found), sorted(found))
                self.assertNotIn(0, found.values())
                self.assertLessEqual(set(found), set(towers))
                table = opposite_table(book, degree)
                self.assertEqual(numbers, [sum(found.get(tower, 0) * row[at] for tower, row in zip(towers, table))
                                           for at in range(len(others))])
                for other, number in list(zip(others, numbers))[::9]:
                    self.assertEqual(last_number(book, multiplied(book, found, {other: 1})), number)

    def test_there_and_back(self):
        chance = Random(17)
        for book in room_books(5):
            for degree in range(book.rank):
                towers = tidy_towers(book, degree)
                some = {tower: number for tower in towers if (number := chance.randint(-2, 2))}
                numbers = [last_number(book, multiplied(book, some, {other: 1}))
                           for other in tidy_towers(book, book.rank - 1 - degree)]
                self.assertEqual(told_by_last(book, degree, numbers), some)


class Wrong(unittest.TestCase):
    def test_degrees(self):
        for book in (even_book(1, 1), even_book(2, 3), even_book(3, 3)):
            for degree in [*ODDS, -1, book.rank, book.rank + 1, 10 ** 20]:
                for call in (lambda: opposite_table(book, degree), lambda: told_by_last(book, degree, "x")):
                    with self.assertRaises(BadNumber) as caught:
                        call()
                    self.assertEqual(caught.exception.part, "degree")

    def test_numbers(self):
        for numbers in [*ODDS, 0, [], (), [1, 2, 3], [1, 2, 3, 4, 5], [1, 2, 3, None], [1, 2, True, 4], "1234",
                        [1, 2, 3, 4.0], [[1, 2, 3, 4]], {1: 1, 2: 2, 3: 3, 4: 4}]:
            with self.assertRaises(BadTable):
                told_by_last(even_book(3, 3), 1, numbers)
        for numbers in ([], [1, 2], [[1]]):
            with self.assertRaises(BadTable):
                told_by_last(even_book(3, 3), 0, numbers)


if __name__ == "__main__":
    unittest.main()

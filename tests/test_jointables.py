"""Point 81: the table of joins, and its determinant."""

import copy
import unittest

from flatrooms.errors import BadBook, BadTable
from flatrooms.jointables import join_table, told_determinant
from flatrooms.makers import even_book, table_book
from flatrooms.tables import determinant
from tests.flathelp import (TWINS, empty_book, flat_numbers, no_sums, order_books, plain_join, plain_signs_over,
                            sequence)
from tests.samples import FANO, ODDS
from tests.weighthelp import GREAT


class Tables(unittest.TestCase):
    def test_by_hand(self):
        book, numbers = even_book(2, 2), {(): 2, (0,): 3, (1,): 5, (0, 1): 7}
        self.assertEqual(join_table(book, numbers), ((2, 3, 5, 7), (3, 3, 7, 7), (5, 7, 5, 7), (7, 7, 7, 7)))
        # The sums over the flats that have (), (0,), (1,), (0, 1).
        self.assertEqual(told_determinant(book, numbers), (2 - 3 - 5 + 7) * (3 - 7) * (5 - 7) * 7)
        self.assertEqual(join_table(numbers={(): 4}, book=empty_book()), ((4,),))
        self.assertEqual(told_determinant(numbers={(): 4}, book=empty_book()), 4)
        self.assertEqual(join_table(even_book(0, 2), {(0, 1): GREAT}), ((GREAT,),))
        self.assertEqual(told_determinant(even_book(0, 2), {(0, 1): 0}), 0)
        # By rank, not as lots ascend: (0, 1, 2) stands behind (2,).
        found = join_table(even_book(2, 3), {(0, 1, 2): 9, (2,): 3, (1,): 2, (0,): 1, (): 0})
        self.assertEqual(found[0], (0, 1, 2, 3, 9))
        self.assertEqual(found[1], (1, 1, 9, 9, 9))

    def test_from_the_definition(self):
        for seed, book in enumerate(order_books()):
            every = list(sequence(book))
            if len(every) > 40:
                continue
            numbers = flat_numbers(book, seed)
            before = copy.deepcopy(numbers)
            found = join_table(book, numbers)
            self.assertEqual(numbers, before)
            self.assertIs(type(found), tuple)
            self.assertEqual(found, tuple(tuple(numbers[plain_join(book, one, other)] for other in every)
                                          for one in every))
            product = 1
            for low in every:
                product *= sum(sign * numbers[flat] for flat, sign in plain_signs_over(book, low).items())
            self.assertEqual(told_determinant(book, numbers), product)

    def test_the_determinant(self):
        many = 0
        for seed, book in enumerate(order_books() + [TWINS, table_book(2, FANO)]):
            if len(sequence(book)) > 40:
                continue
            for k in range(2):
                numbers = flat_numbers(book, seed + k, (-5, -2, 1, 3, 4, 11, GREAT))
                found = determinant(join_table(book, numbers))
                self.assertEqual(told_determinant(book, numbers), found)
                many += found != 0
        self.assertGreater(many, 200)


class Wrong(unittest.TestCase):
    def test_no_tables(self):
        book = even_book(2, 3)
        every = {flat: 1 for flat in sequence(book)}
        wrong = no_sums(book) + [{}, {(): 1}, {**every, (0, 1): 1}, {**every, None: 1}, {**every, (3,): 1}]
        wrong += [{flat: 1 for flat in every if flat != lost} for lost in every]
        wrong += [{**every, (1,): number} for number in (True, False, None, 1.0, "1")]
        wrong += [list(every.items()), {**{flat: 1 for flat in every if flat != (1,)}, (True,): 1}]
        for numbers in wrong:
            for call in (join_table, told_determinant):
                with self.assertRaises(BadTable):
                    call(book, numbers)
        self.assertEqual(told_determinant(book, {**every, (): 0}), 0)

    def test_books_come_first(self):
        for thing in [*ODDS, 0]:
            for call in (join_table, told_determinant):
                with self.assertRaises(BadBook) as caught:
                    call(thing, None)
                self.assertIsNone(caught.exception.part)


if __name__ == "__main__":
    unittest.main()

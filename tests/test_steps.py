"""Point 43: steps by sums of degree 1."""

import copy
import unittest

from flatrooms.alike import renamed
from flatrooms.errors import BadNumber, BadSum
from flatrooms.makers import even_book, table_book
from flatrooms.rooms import multiplied
from flatrooms.steps import path_table
from flatrooms.sums import inner_sum, outer_sum
from flatrooms.tables import determinant
from flatrooms.towers import room_sizes, tidy_towers
from flatrooms.weights import weight_sum
from tests.roomhelp import NO_TOWERS, all_towers, chance_sum, everything, letter, prime_rank
from tests.samples import FANO, ODDS, orders_of, room_books
from tests.weighthelp import GREAT, bent_weights, even_weights

# Values that are no list of sums of towers of degree 1 of even_book(3, 3).
NO_STEPS = [thing for thing in ODDS if thing != [{}]] + [[{tower: 1}] for tower in NO_TOWERS]
NO_STEPS += [0, {}, {(): 1}, "", "ab", [None], [{}, None], ["x"], [[]], [0], [{}, {(): 1}], [{(): 0}],
             [{**letter(0), (): 0}], [letter(0, times=2)], [{(((0,), 1), ((0, 1), 1)): 0}],
             [letter(0), letter(0, 1, 2, times=3)], [{(((0,), 1),): True}], [{(((0,), 1),): None}], letter(0),
             ({(((3,), 1),): 1},), [{(((), 1),): 1}]]


def chance_steps(book, many, seed):
    """Sums of towers of degree 1, taken by chance, with the sum {} among them now and then."""
    towers = all_towers(book, 1)
    return [chance_sum(towers, seed + k) for k in range(many)]


class Paths(unittest.TestCase):
    def test_by_hand(self):
        book = even_book(2, 3)
        self.assertEqual(path_table(book, 0, []), ((1,),))
        self.assertEqual(path_table(book, 1, ()), ((1,),))
        self.assertEqual(path_table(sums=[weight_sum(book, even_weights(3))], degree=0, book=book), ((-6,),))
        self.assertEqual(path_table(book, 0, [letter(0)]), ((-1,),))
        self.assertEqual(path_table(book, 0, [letter(0), letter(0)]), ((),))
        self.assertEqual(path_table(book, 1, [{}]), ((),))
        self.assertEqual(path_table(book, 0, [{}]), ((0,),))
        self.assertEqual(path_table(book, 0, [{(((0,), 1),): 0}]), ((0,),))
        self.assertEqual(path_table(even_book(1, 1), 0, []), ((1,),))
        self.assertEqual(path_table(even_book(1, 1), 0, [{}]), ((),))
        self.assertEqual(path_table(even_book(1, 2), 0, [{(((0, 1), 1),): GREAT}]), ((),))
        three = even_book(3, 3)
        self.assertEqual(path_table(three, 0, [letter(0)]), ((-1, -1, -1, 0),))
        self.assertEqual(path_table(three, 1, ({(((0,), 1),): GREAT},)), ((GREAT,), (-GREAT,), (GREAT,), (0,)))
        self.assertEqual(path_table(three, 1, [letter(0)] * 2), ((), (), (), ()))

    def test_from_products(self):
        for book in room_books(5) + [table_book(2, FANO)]:
            for degree in range(book.rank):
                for many in range(4):
                    sums = chance_steps(book, many, degree)
                    before = copy.deepcopy(sums)
                    table = path_table(book, degree, sums)
                    self.assertEqual(sums, before)
                    self.assertIs(type(table), tuple)
                    towers, ends = tidy_towers(book, degree), tidy_towers(book, degree + many)
                    self.assertEqual(len(table), len(towers))
                    for tower, row in list(zip(towers, table))[::3]:
                        self.assertIs(type(row), tuple)
                        led = {tower: 1}
                        for one in sums:
                            led = multiplied(book, led, one)
                        self.assertEqual(row, tuple(led.get(end, 0) for end in ends))
                    self.assertEqual(path_table(book, degree, sums[::-1]), table)

    def test_beyond_the_last_degree(self):
        for book in room_books(5):
            for degree in range(book.rank):
                for many in (book.rank - degree, book.rank, 30):
                    table = path_table(book, degree, [outer_sum(book)] * many)
                    self.assertEqual(table, ((),) * room_sizes(book)[degree])

    def test_no_sums(self):
        for book in room_books(5):
            for degree, size in enumerate(room_sizes(book)):
                table = path_table(book, degree, [])
                self.assertEqual(table, tuple(tuple(int(k == at) for k in range(size)) for at in range(size)))


class NothingIsLost(unittest.TestCase):
    def test_from_a_part_to_the_opposite_one(self):
        for seed, book in enumerate(room_books(6) + [table_book(2, FANO), even_book(3, 7), even_book(4, 7)]):
            d = book.rank - 1
            for degree in range(d // 2 + 1):
                if room_sizes(book)[degree] > 70:
                    continue
                for same in (False, True):
                    weights = [bent_weights(book.size, 0 if same else seed + k) for k in range(d - 2 * degree)]
                    sums = [weight_sum(book, one) for one in weights]
                    table = path_table(book, degree, sums)
                    self.assertEqual({len(row) for row in table}, {len(table)})
                    self.assertNotEqual(determinant(table), 0)

    def test_renamed_books(self):
        for book in room_books(4):
            for order in orders_of(book, 3):
                other = renamed(book, order)
                for degree in range((book.rank - 1) // 2 + 1):
                    sums = [weight_sum(other, bent_weights(book.size, k)) for k in range(book.rank - 1 - 2 * degree)]
                    self.assertNotEqual(determinant(path_table(other, degree, sums)), 0)

    def test_one_step(self):
        for seed, book in enumerate(room_books(6) + [table_book(2, FANO)]):
            d, sizes = book.rank - 1, room_sizes(book)
            one = weight_sum(book, bent_weights(book.size, seed))
            for degree in range(d):
                rank = prime_rank(path_table(book, degree, [one]))
                self.assertLessEqual(rank, min(sizes[degree], sizes[degree + 1]))
                if 2 * degree < d:
                    self.assertEqual(rank, sizes[degree])
                if 2 * degree >= d - 1:
                    self.assertEqual(rank, sizes[degree + 1])

    def test_weights_that_do_not_bend_may_lose(self):
        book = even_book(3, 3)
        self.assertEqual(determinant(path_table(book, 0, [letter(0), letter(1)])), 0)
        self.assertEqual(determinant(path_table(book, 0, [outer_sum(book), inner_sum(book)])), 2)
        self.assertEqual(determinant(path_table(book, 0, [inner_sum(book), inner_sum(book)])), 1)


class Wrong(unittest.TestCase):
    def test_degrees_come_first(self):
        for book in (even_book(1, 1), even_book(2, 3), even_book(3, 3)):
            for degree in [*ODDS, -1, book.rank, book.rank + 1, GREAT]:
                with self.assertRaises(BadNumber) as caught:
                    path_table(book, degree, None)
                self.assertEqual(caught.exception.part, "degree")

    def test_sums(self):
        for sums in NO_STEPS:
            for degree in range(3):
                with self.assertRaises(BadSum):
                    path_table(even_book(3, 3), degree, sums)

    def test_towers_of_this_book(self):
        with self.assertRaises(BadSum):
            path_table(table_book(2, FANO), 0, [letter(0, 1)])
        self.assertEqual(len(path_table(table_book(2, FANO), 0, [letter(0, 1, 3)])), 1)
        self.assertEqual(everything(even_book(2, 3)), (0, 1, 2))


if __name__ == "__main__":
    unittest.main()

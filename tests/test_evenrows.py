"""Point 94: the own rows of even books, told by ways to choose."""

import unittest
from fractions import Fraction

from flatrooms.errors import BadNumber
from flatrooms.evenrows import even_row
from flatrooms.makers import even_book
from flatrooms.ownrows import own_row
from flatrooms.rows import is_row
from tests.flathelp import trimmed
from tests.roomhelp import choose
from tests.samples import ODDS
from tests.weighthelp import GREAT


class EvenRows(unittest.TestCase):
    def test_by_hand(self):
        self.assertEqual(even_row(4, 6), (1, 14))
        self.assertEqual(even_row(size=4, rank=3), (1, 2))
        self.assertEqual(even_row(0, 0), (1,))
        self.assertEqual(even_row(0, 30), (1,))
        self.assertEqual(even_row(30, 30), (1,))
        self.assertEqual(even_row(1, 30), (1,))
        self.assertEqual(even_row(2, 30), (1,))
        # Flats of rank 2 less those of rank 1.
        self.assertEqual(even_row(3, 30), (1, choose(30, 2) - 30))
        self.assertEqual(even_row(5, 6), (1, 9, 5))

    def test_the_own_rows(self):
        for size in range(9):
            for rank in range(size + 1):
                self.assertEqual(even_row(rank, size), own_row(even_book(rank, size)))

    def test_from_the_definition(self):
        for size in range(31):
            for rank in range(size + 1):
                numbers = [Fraction(1)]
                for k in range(1, rank):
                    if 2 * k < rank:
                        total = sum(choose(rank - k + h, h + k + 1) * choose(k - 1 + h, h) for h in range(size - rank))
                        numbers.append(Fraction(choose(size, k) * total, rank - k))
                found = even_row(rank, size)
                self.assertTrue(is_row(found))
                self.assertEqual(found, trimmed(numbers))
                self.assertGreaterEqual(min(found), 0)
                if rank > 2:
                    self.assertEqual((*found, 0)[1], choose(size, rank - 1) - size)

    def test_wrong_numbers(self):
        for size in [*ODDS, -1, 31, GREAT]:
            for rank in (0, None, -1):
                with self.assertRaises(BadNumber) as caught:
                    even_row(rank, size)
                self.assertEqual(caught.exception.part, "size")
        for rank in [*ODDS, -1, 5, GREAT]:
            with self.assertRaises(BadNumber) as caught:
                even_row(rank, 4)
            self.assertEqual(caught.exception.part, "rank")
        for rank in (True, 1, 31):
            with self.assertRaises(BadNumber):
                even_row(rank, 0)


if __name__ == "__main__":
    unittest.main()

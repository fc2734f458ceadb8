"""Point 40: determinants, and the counts of signs of forms."""

import copy
import unittest
from fractions import Fraction
from itertools import permutations, product
from random import Random

from flatrooms.errors import BadTable
from flatrooms.tables import determinant, sign_counts
from tests.samples import ODDS

GREAT = 10 ** 20


def plain_determinant(table):
    """Over all sequences of the rows."""
    total = 0
    for order in permutations(range(len(table))):
        turns = sum(order[i] > order[k] for i in range(len(order)) for k in range(i, len(order)))
        term = (-1) ** turns
        for at, to in enumerate(order):
            term *= table[at][to]
        total += term
    return total


def multiplied(one, other):
    return [[sum(a * b for a, b in zip(row, column)) for column in zip(*other)] for row in one]


def chance_table(chance, rows, columns, numbers):
    return [[chance.choice(numbers) for _ in range(columns)] for _ in range(rows)]


def fraction_rank(table):
    left = [[Fraction(number) for number in row] for row in table]
    rank = 0
    while left:
        row = left.pop()
        at = next((k for k, number in enumerate(row) if number), None)
        if at is not None:
            rank += 1
            left = [[a - other[at] / row[at] * b for a, b in zip(other, row)] for other in left]
    return rank


class Determinant(unittest.TestCase):
    def test_by_hand(self):
        self.assertEqual(determinant(()), 1)
        self.assertEqual(determinant([]), 1)
        self.assertEqual(determinant([[7]]), 7)
        self.assertEqual(determinant([[0]]), 0)
        self.assertEqual(determinant([[0, 1], [1, 0]]), -1)
        self.assertEqual(determinant(table=((2, 3), [4, 5])), -2)
        self.assertEqual(determinant([[0, 0], [0, 0]]), 0)
        self.assertEqual(determinant([[0, 0, 1], [1, 0, 0], [0, 1, 0]]), 1)
        self.assertEqual(determinant([[0, 2, 0], [0, 0, 3], [5, 0, 0]]), 30)
        self.assertEqual(determinant([[GREAT, 1], [-1, GREAT]]), GREAT ** 2 + 1)
        self.assertEqual(determinant([[GREAT, GREAT], [GREAT, GREAT]]), 0)

    def test_over_all_sequences(self):
        chance = Random(12)
        for size in range(6):
            for numbers in ([0, 1, -1], [0, 0, 0, 2, -3], list(range(-9, 10)), [GREAT, -GREAT, GREAT + 1, 0]):
                for _ in range(12):
                    table = chance_table(chance, size, size, numbers)
                    before = copy.deepcopy(table)
                    self.assertEqual(determinant(table), plain_determinant(table))
                    self.assertEqual(table, before)

    def test_products_and_greater_tables(self):
        chance = Random(13)
        for size in (7, 12, 20):
            one = chance_table(chance, size, size, [0, 0, 1, 2, -1])
            other = chance_table(chance, size, size, [0, 1, 5, -7])
            self.assertEqual(determinant(multiplied(one, other)), determinant(one) * determinant(other))
            self.assertEqual(determinant(list(zip(*one))), determinant(one))
            lower = [[1 if at == to else (3 if to < at else 0) for to in range(size)] for at in range(size)]
            self.assertEqual(determinant(multiplied(lower, one)), determinant(one))
            one[3] = [2 * a - b for a, b in zip(one[0], one[1])]
            self.assertEqual(determinant(one), 0)


class Signs(unittest.TestCase):
    def test_by_hand(self):
        self.assertEqual(sign_counts(()), (0, 0, 0))
        self.assertEqual(sign_counts([]), (0, 0, 0))
        self.assertEqual(sign_counts([[5]]), (1, 0, 0))
        self.assertEqual(sign_counts([[-5]]), (0, 1, 0))
        self.assertEqual(sign_counts([[0]]), (0, 0, 1))
        self.assertEqual(sign_counts([[0, 1], [1, 0]]), (1, 1, 0))
        self.assertEqual(sign_counts([[0, -1], [-1, 0]]), (1, 1, 0))
        self.assertEqual(sign_counts(table=((1, 2), [2, 4])), (1, 0, 1))
        self.assertEqual(sign_counts([[-1, 2], [2, -4]]), (0, 1, 1))
        self.assertEqual(sign_counts([[0, 0, 0], [0, 0, 0], [0, 0, 0]]), (0, 0, 3))
        self.assertEqual(sign_counts([[0, 1, 1], [1, 0, 1], [1, 1, 0]]), (1, 2, 0))
        self.assertEqual(sign_counts([[0, 0, 1], [0, -1, 0], [1, 0, 0]]), (1, 2, 0))
        self.assertEqual(sign_counts([[GREAT, GREAT + 1], [GREAT + 1, GREAT + 2]]), (1, 1, 0))
        self.assertEqual(sign_counts([[-GREAT, 0], [0, 10 ** 40]]), (1, 1, 0))

    def test_told_counts(self):
        chance = Random(14)
        for size in range(7):
            for plus, minus in product(range(size + 1), repeat=2):
                if plus + minus > size:
                    continue
                signs = [1] * plus + [-1] * minus + [0] * (size - plus - minus)
                chance.shuffle(signs)
                table = [[signs[at] * chance.randint(1, 9) if at == to else 0 for to in range(size)]
                         for at in range(size)]
                turn = chance_table(chance, size, size, [-2, -1, 0, 0, 1, 3])
                while fraction_rank(turn) < size:
                    turn = chance_table(chance, size, size, [-2, -1, 0, 0, 1, 3])
                made = multiplied(multiplied(turn, table), [list(row) for row in zip(*turn)])
                before = copy.deepcopy(made)
                self.assertEqual(sign_counts(made), (plus, minus, size - plus - minus))
                self.assertEqual(made, before)

    def test_nothing_on_the_diagonal(self):
        chance = Random(15)
        for size in (2, 3, 4, 5, 6):
            for _ in range(20):
                half = chance_table(chance, size, size, [0, 0, 1, -1, 2, GREAT])
                table = [[0 if at == to else half[min(at, to)][max(at, to)] for to in range(size)]
                         for at in range(size)]
                plus, minus, nothing = sign_counts(table)
                self.assertEqual(plus + minus, fraction_rank(table))
                self.assertEqual(plus + minus + nothing, size)
                self.assertEqual(sign_counts([[-number for number in row] for row in table]), (minus, plus, nothing))
                self.assertEqual(sign_counts([[2 * a for a in row] for row in table]), (plus, minus, nothing))
                if nothing == 0:
                    self.assertEqual(determinant(table) > 0, minus % 2 == 0)

    def test_each_small_table(self):
        for a, b, c in product(range(-3, 4), repeat=3):
            counts = sign_counts([[a, b], [b, c]])
            self.assertIs(type(counts), tuple)
            whole = a * c - b * b
            expected = ((2, 0, 0) if a > 0 else (0, 2, 0)) if whole > 0 else (1, 1, 0) if whole < 0 else \
                (1, 0, 1) if a + c > 0 else (0, 1, 1) if a + c < 0 else (0, 0, 2)
            self.assertEqual(counts, expected)


class Wrong(unittest.TestCase):
    def test_no_square_tables(self):
        for table in [*ODDS, 0, [0], [[]], ((),), [[1, 2]], [[1], [2]], [[1, 2], [3]], [[1, 2], [3, 4, 5]],
                      [[True]], [["1"]], ["a"], [[1.0]], [[None]], {0: [1]}, [{0: 1}], [[1, 2], None], "",
                      [[1, 0], [0, False]], [[], []], [[[1]]]]:
            for asked in (determinant, sign_counts):
                with self.assertRaises(BadTable):
                    asked(table)

    def test_rows_and_columns_exchanged(self):
        for table in [[[1, 2], [3, 4]], [[0, 1], [-1, 0]], [[0, 0, 1], [0, 0, 0], [0, 0, 0]]]:
            with self.assertRaises(BadTable):
                sign_counts(table)
            determinant(table)


if __name__ == "__main__":
    unittest.main()

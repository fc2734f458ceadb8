"""Points 44, 45 and 46: forms of the room, what a path leads to nothing, squares, weights that bend weakly."""

import copy
import unittest

from flatrooms.alike import renamed
from flatrooms.errors import BadNumber, BadSum
from flatrooms.flats import flats
from flatrooms.forms import form_table, kept_sums
from flatrooms.makers import even_book, table_book
from flatrooms.pairing import opposite_table
from flatrooms.rooms import added, last_number, multiplied, tidied
from flatrooms.sides import cut_short
from flatrooms.steps import path_table
from flatrooms.sums import inner_sum, outer_sum
from flatrooms.tables import sign_counts
from flatrooms.towers import room_sizes, tidy_towers
from flatrooms.weights import bends, weight_sum
from tests.roomhelp import all_towers, chance_sum, letter, prime_rank, rows_of
from tests.samples import FANO, ODDS, orders_of, room_books
from tests.test_steps import NO_STEPS, chance_steps
from tests.weighthelp import (GREAT, bent_weights, chance_weights, even_weights, inner_weights, outer_weights,
                              rank_weights, same_weights, weak_weights)

# Above this size of a part of the room its forms take too long to be tested.
MOST = 70


def bent_sums(book, many, seed=0):
    return [weight_sum(book, bent_weights(book.size, seed + k)) for k in range(many)]


def product_of(book, sums):
    total = {(): 1}
    for one in sums:
        total = multiplied(book, total, one)
    return total


def new_sizes(book, degree):
    """How many more there are in this part of the room than in the part ahead of it."""
    sizes = room_sizes(book)
    return sizes[degree] - (sizes[degree - 1] if degree else 0)


def told_signs(book, degree):
    counts = [0, 0]
    for k in range(degree + 1):
        counts[k % 2] += new_sizes(book, k)
    return (*counts, 0)


def lower_parts(most=6):
    """Each book with the degrees up to half of its greatest one, where the part is not too great."""
    books = room_books(most) + [table_book(2, FANO), even_book(3, 7), even_book(4, 7)]
    return [(book, degree) for book in books for degree in range((book.rank - 1) // 2 + 1)
            if room_sizes(book)[degree] <= MOST]


class Forms(unittest.TestCase):
    def test_by_hand(self):
        book = even_book(2, 3)
        weights = even_weights(3)
        self.assertTrue(bends(3, weights, 1))
        self.assertEqual(weight_sum(book, weights), {(((0, 1, 2), 1),): -6})
        self.assertEqual(last_number(book, weight_sum(book, weights)), 6)
        self.assertEqual(opposite_table(book, 0), ((-1,),))
        self.assertEqual(form_table(book, 0, [weight_sum(book, weights)]), ((6,),))
        self.assertEqual(form_table(sums=({},), degree=0, book=book), ((0,),))
        self.assertEqual(form_table(even_book(1, 5), 0, []), ((1,),))
        self.assertEqual(form_table(even_book(3, 3), 0, [letter(0), letter(0)]), ((-1,),))
        self.assertEqual(form_table(even_book(3, 3), 0, [letter(0), {(((0, 1), 1),): GREAT}]), ((GREAT,),))
        self.assertEqual(form_table(even_book(3, 3), 1, ()),
                         ((-1, 0, 0, 0), (0, 1, 0, 0), (0, 0, -1, 0), (0, 0, 0, -1)))

    def test_from_last_numbers(self):
        for book, degree in lower_parts(5):
            many = book.rank - 1 - 2 * degree
            for sums in (chance_steps(book, many, degree), bent_sums(book, many)):
                before = copy.deepcopy(sums)
                table = form_table(book, degree, sums)
                self.assertEqual(sums, before)
                towers = tidy_towers(book, degree)
                total = product_of(book, sums)
                self.assertIs(type(table), tuple)
                self.assertEqual((len(table), {len(row) for row in table}), (len(towers), {len(towers)}))
                for one, row in list(zip(towers, table))[::4]:
                    self.assertIs(type(row), tuple)
                    led = multiplied(book, total, {one: 1})
                    for other, number in list(zip(towers, row))[::3]:
                        self.assertEqual(number, last_number(book, multiplied(book, led, {other: 1})))
                self.assertEqual(tuple(zip(*table)), table)

    def test_signs(self):
        for seed, (book, degree) in enumerate(lower_parts()):
            many = book.rank - 1 - 2 * degree
            sums = bent_sums(book, many, seed)
            self.assertEqual(sign_counts(form_table(book, degree, sums)), told_signs(book, degree))
            if many:
                self.assertEqual(sign_counts(form_table(book, degree, sums[:1] * many)), told_signs(book, degree))

    def test_signs_of_renamed_books(self):
        for book in room_books(4):
            for order in orders_of(book, 3):
                other = renamed(book, order)
                for degree in range((book.rank - 1) // 2 + 1):
                    sums = bent_sums(other, book.rank - 1 - 2 * degree)
                    self.assertEqual(sign_counts(form_table(other, degree, sums)), told_signs(other, degree))

    def test_degrees_come_first(self):
        for book in (even_book(1, 1), even_book(2, 3), even_book(3, 3), even_book(4, 4)):
            beyond = (book.rank - 1) // 2 + 1
            for degree in [*ODDS, -1, beyond, beyond + 1, book.rank, GREAT]:
                for call in (form_table, kept_sums):
                    with self.assertRaises(BadNumber) as caught:
                        call(book, degree, None)
                    self.assertEqual(caught.exception.part, "degree")

    def test_sums_come_next(self):
        for sums in NO_STEPS:
            for degree in range(2):
                for call in (form_table, kept_sums):
                    with self.assertRaises(BadSum):
                        call(even_book(3, 3), degree, sums)

    def test_how_many_sums(self):
        for book in (even_book(1, 1), even_book(2, 3), even_book(3, 3), even_book(4, 4), even_book(5, 5)):
            for degree in range((book.rank - 1) // 2 + 1):
                for many in range(book.rank + 3):
                    wants = [(form_table, book.rank - 1 - 2 * degree), (kept_sums, book.rank - 2 * degree)]
                    for call, wanted in wants:
                        if many == wanted:
                            call(book, degree, [{}] * many)
                            continue
                        with self.assertRaises(BadNumber) as caught:
                            call(book, degree, [{}] * many)
                        self.assertEqual(caught.exception.part, "sums")


class Kept(unittest.TestCase):
    def test_by_hand(self):
        self.assertEqual(len(kept_sums(even_book(1, 1), 0, [{}])), 1)
        self.assertEqual(list(kept_sums(even_book(2, 3), 0, [{}, {}])[0]), [()])
        three = even_book(3, 3)
        self.assertEqual(len(kept_sums(sums=[weight_sum(three, even_weights(3))], degree=1, book=three)), 3)
        self.assertEqual(len(kept_sums(three, 1, [{}])), 4)
        self.assertEqual(len(kept_sums(three, 1, [letter(0)])), 3)

    def test_all_that_the_sums_keep(self):
        for book, degree in lower_parts(5):
            for steps in (bent_sums, chance_steps):
                sums = steps(book, book.rank - 2 * degree, 3)
                before = copy.deepcopy(sums)
                found = kept_sums(book, degree, sums)
                self.assertEqual(sums, before)
                self.assertIs(type(found), list)
                towers = tidy_towers(book, degree)
                total = product_of(book, sums)
                for one in found:
                    self.assertLessEqual(set(one), set(towers))
                    self.assertEqual(list(one), sorted(one))
                    self.assertNotIn(0, one.values())
                    self.assertEqual(multiplied(book, one, total), {})
                self.assertEqual(prime_rank(rows_of(found, towers)), len(found))
                self.assertEqual(len(found), len(towers) - prime_rank(path_table(book, degree, sums)))
                self.assertEqual(kept_sums(book, degree, sums), found)

    def test_how_many_and_their_signs(self):
        for seed, (book, degree) in enumerate(lower_parts()):
            sums = bent_sums(book, book.rank - 2 * degree, seed)
            found = kept_sums(book, degree, sums)
            self.assertEqual(len(found), new_sizes(book, degree))
            for left in {0, len(sums) - 1}:
                others = product_of(book, sums[:left] + sums[left + 1:])
                if len(found) > 12:
                    continue
                ends = [multiplied(book, one, others) for one in found]
                table = [[last_number(book, multiplied(book, one, end)) for end in ends] for one in found]
                counts = [len(found), 0, 0] if degree % 2 == 0 else [0, len(found), 0]
                self.assertEqual(sign_counts(table), tuple(counts))

    def test_signs_of_some_that_are_kept(self):
        for book in (even_book(3, 5), even_book(4, 5), table_book(2, FANO), even_book(4, 6)):
            sums = bent_sums(book, book.rank - 2, 7)
            found = kept_sums(book, 1, sums)
            for left in range(len(sums)):
                others = product_of(book, sums[:left] + sums[left + 1:])
                for at in range(len(found)):
                    one = added(book, found[at], found[at - 1], 3)
                    square = multiplied(book, one, one)
                    self.assertLess(last_number(book, multiplied(book, square, others)), 0)

    def test_each_part_is_new_sums_led_along(self):
        # The part of a degree is what is kept there, and the part before led one step.
        for book, degree in lower_parts(5):
            if degree == 0:
                continue
            one = bent_sums(book, 1)[0]
            kept = kept_sums(book, degree, [one] * (book.rank - 2 * degree))
            led = [multiplied(book, {tower: 1}, one) for tower in tidy_towers(book, degree - 1)]
            towers = tidy_towers(book, degree)
            self.assertEqual(prime_rank(rows_of(kept + led, towers)), len(towers))


class Squares(unittest.TestCase):
    def test_squares(self):
        for seed, book in enumerate(room_books(6) + [table_book(2, FANO), even_book(4, 7)]):
            if book.rank < 3:
                continue
            *sums, u = bent_sums(book, book.rank - 2, seed)
            total = product_of(book, sums)
            towers = tidy_towers(book, 1)
            led = multiplied(book, total, u)
            square = last_number(book, multiplied(book, led, u))
            self.assertGreater(square, 0)
            ones = [chance_sum(all_towers(book, 1), seed + k, (-5, -1, 0, 2, 3)) for k in range(4)]
            for x in [*ones, u, {}, {tower: -3 * u[tower] for tower in u}, *bent_sums(book, 1, seed + 20)]:
                left = last_number(book, multiplied(book, led, x)) ** 2
                right = square * last_number(book, multiplied(book, multiplied(book, total, x), x))
                self.assertGreaterEqual(left, right)
                multiple = prime_rank(rows_of([u, tidied(book, x)], towers)) == 1
                self.assertEqual(left == right, multiple)

    def test_by_hand(self):
        book = even_book(3, 3)
        u, x = weight_sum(book, even_weights(3)), letter(0)
        found = [last_number(book, multiplied(book, one, other)) for one, other in ((u, u), (u, x), (x, x))]
        self.assertEqual(found, [24, 2, -1])


class Weakly(unittest.TestCase):
    def test_signs(self):
        for seed, (book, degree) in enumerate(lower_parts()):
            many = book.rank - 1 - 2 * degree
            plus, minus, _ = told_signs(book, degree)
            choices = [[weak_weights(book.size, seed + k) for k in range(many)], [rank_weights(book)] * many,
                       [outer_weights(book.size)] * (many // 2) + [inner_weights(book.size)] * (many - many // 2),
                       [same_weights(book.size, 0)] * many]
            for weights in choices:
                self.assertTrue(all(bends(book.size, one, 0) for one in weights))
                found = sign_counts(form_table(book, degree, [weight_sum(book, one) for one in weights]))
                self.assertLessEqual(found[0], plus)
                self.assertLessEqual(found[1], minus)

    def test_weights_that_do_not_bend_may_have_other_signs(self):
        book = even_book(3, 3)
        sums = [weight_sum(book, even_weights(3, -1)), weight_sum(book, even_weights(3))]
        self.assertEqual(sign_counts(form_table(book, 0, sums)), (0, 1, 0))
        self.assertFalse(bends(3, chance_weights(3, 2), 0))

    def test_outer_and_inner(self):
        for book in room_books(6):
            for weights, told in ((outer_weights(book.size), outer_sum), (inner_weights(book.size), inner_sum)):
                self.assertTrue(bends(book.size, weights, 0))
                self.assertEqual(weight_sum(book, weights), told(book))

    def test_the_step_by_outer(self):
        for book in room_books(6) + [table_book(2, FANO), even_book(3, 7)]:
            if book.rank < 2 or max(room_sizes(book)) > MOST:
                continue
            short = room_sizes(cut_short(book))
            high = flats(book)[book.rank - 1]
            for degree in range(book.rank):
                towers = tidy_towers(book, degree)
                rank = prime_rank(path_table(book, degree, [outer_sum(book)]))
                self.assertEqual(rank, short[degree] if degree < len(short) else 0)
                lost = [tidied(book, {tower: 1}) for tower in all_towers(book, degree)
                        if any(flat in high for flat, _ in tower)]
                for one in lost[::5]:
                    self.assertEqual(multiplied(book, one, outer_sum(book)), {})
                if book.size < 6:
                    self.assertEqual(prime_rank(rows_of(lost, towers)), len(towers) - rank)


if __name__ == "__main__":
    unittest.main()

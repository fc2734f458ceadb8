"""Point 30: towers, the tidy ones, and the errors of all that works in the room."""

import unittest

from flatrooms.books import Book
from flatrooms.cuttings import cut_led
from flatrooms.errors import BadBook, BadNumber, TooMany
from flatrooms.forms import form_table, kept_sums
from flatrooms.leavings import both_flats, led_in
from flatrooms.letters import by_letter
from flatrooms.makers import even_book, table_book, web_book
from flatrooms.mixes import falling_chains, mixed_numbers, mixed_volumes
from flatrooms.pairing import opposite_table, told_by_last
from flatrooms.rooms import added, last_number, multiplied, powered, tidied
from flatrooms.sides import side_by_side
from flatrooms.sizerows import middle_row, sizes_by_signs, sizes_by_thing
from flatrooms.slopes import second_slopes
from flatrooms.splits import by_thing, split_by
from flatrooms.steps import path_table
from flatrooms.sums import inner_sum, outer_sum
from flatrooms.towernumbers import tower_number
from flatrooms.towers import room_sizes, tidy_towers
from flatrooms.volumes import volume, volume_rows
from flatrooms.weights import weight_sum
from flatrooms.wides import wide_last, wide_multiplied, wide_powered, wide_sizes, wide_tidied, wide_towers
from flatrooms.widesteps import is_rising, rising_sum, wide_form, wide_pairing
from flatrooms.widesums import bare_letter, lot_letter, thing_letter
from tests.roomhelp import all_towers, everything, is_tidy, plain_product, with_thing
from tests.samples import FANO, ODDS, book_of, room_books

# All that works in the room, with values that are wrong behind the book.
IN_THE_ROOM = [lambda book: tidy_towers(book, "x"), room_sizes, lambda book: tidied(book, "x"),
               lambda book: multiplied(book, "x", "x"), lambda book: added(book, "x", "x", "x"),
               lambda book: powered(book, "x", "x"), lambda book: last_number(book, "x"),
               outer_sum, inner_sum, lambda book: opposite_table(book, "x"),
               lambda book: told_by_last(book, "x", "x"), lambda book: weight_sum(book, "x"),
               lambda book: path_table(book, "x", "x"), lambda book: form_table(book, "x", "x"),
               lambda book: kept_sums(book, "x", "x"), mixed_numbers, lambda book: mixed_volumes(book, "x", "x"),
               lambda book: falling_chains(book, "x"), lambda book: tower_number(book, "x"), volume_rows,
               lambda book: volume(book, "x"), lambda book: second_slopes(book, "x"),
               lambda book: by_letter(book, "x", "x", "x"), lambda book: both_flats(book, "x"),
               lambda book: led_in(book, "x", "x"), lambda book: by_thing(book, "x", "x", "x", "x"),
               lambda book: split_by(book, "x", "x"), sizes_by_signs, lambda book: sizes_by_thing(book, "x"),
               middle_row, lambda book: cut_led(book, "x"), lambda book: wide_towers(book, "x"), wide_sizes,
               lambda book: wide_tidied(book, "x"), lambda book: wide_multiplied(book, "x", "x"),
               lambda book: wide_powered(book, "x", "x"), lambda book: wide_last(book, "x"),
               lambda book: thing_letter(book, "x"), bare_letter, lambda book: lot_letter(book, "x"),
               lambda book: wide_pairing(book, "x"), lambda book: is_rising(book, "x"),
               lambda book: rising_sum(book, "x"), lambda book: wide_form(book, "x", "x")]


def free_of_rules(book, degree):
    """How many towers of this degree are free of one another by the rules, modulo a prime."""
    prime = 1000003
    steps = {}
    for tower in all_towers(book, degree - 1) if degree else []:
        for thing in range(book.size):
            row = dict(plain_product({tower: 1}, with_thing(book, thing)))
            while row:
                lead = min(row)
                if lead not in steps:
                    turn = pow(row[lead], -1, prime)
                    steps[lead] = {key: number * turn % prime for key, number in row.items()}
                    break
                many = row[lead]
                for key, number in steps[lead].items():
                    row[key] = (row.get(key, 0) - many * number) % prime
                    if not row[key]:
                        del row[key]
    return len(all_towers(book, degree)) - len(steps)


class Tidy(unittest.TestCase):
    def test_by_hand(self):
        self.assertEqual(tidy_towers(even_book(2, 3), 0), [()])
        self.assertEqual(tidy_towers(even_book(2, 3), 1), [(((0, 1, 2), 1),)])
        self.assertEqual(tidy_towers(degree=1, book=even_book(3, 3)),
                         [(((0, 1), 1),), (((0, 1, 2), 1),), (((0, 2), 1),), (((1, 2), 1),)])
        self.assertEqual(tidy_towers(even_book(3, 3), 2), [(((0, 1, 2), 2),)])
        self.assertEqual(tidy_towers(even_book(1, 7), 0), [()])
        towers = tidy_towers(even_book(4, 4), 2)
        self.assertEqual(len(towers), 11)
        self.assertIn((((0, 1), 1), ((0, 1, 2, 3), 1)), towers)
        self.assertIn((((1, 2, 3), 2),), towers)
        self.assertNotIn((((0, 1), 1), ((0, 1, 2), 1)), towers)
        self.assertNotIn((((0, 1), 2),), towers)

    def test_from_the_definition(self):
        for book in room_books(5):
            for degree in range(book.rank + 1):
                self.assertEqual(tidy_towers(book, degree),
                                 sorted(tower for tower in all_towers(book, degree) if is_tidy(book, tower)))

    def test_degrees_beyond(self):
        for book in room_books(7):
            for degree in (book.rank, book.rank + 1, 50, 10 ** 20):
                self.assertEqual(tidy_towers(book, degree), [])
            self.assertEqual(tidy_towers(book, 0), [()])
            last = ((everything(book), book.rank - 1),) if book.rank > 1 else ()
            self.assertEqual(tidy_towers(book, book.rank - 1), [last])

    def test_new_lists(self):
        tidy_towers(even_book(2, 3), 1).clear()
        self.assertEqual(len(tidy_towers(even_book(2, 3), 1)), 1)

    def test_bad_degrees(self):
        for degree in [*ODDS, -1, -10 ** 20]:
            with self.assertRaises(BadNumber) as caught:
                tidy_towers(even_book(2, 3), degree)
            self.assertEqual(caught.exception.part, "degree")


class Sizes(unittest.TestCase):
    def test_by_hand(self):
        self.assertEqual(room_sizes(even_book(2, 3)), (1, 1))
        self.assertEqual(room_sizes(book=even_book(1, 7)), (1,))
        self.assertEqual(room_sizes(table_book(2, FANO)), (1, 8, 1))
        self.assertEqual(room_sizes(even_book(4, 7)), (1, 57, 57, 1))

    def test_numbers_of_sequences(self):
        rows = [(1,), (1, 1), (1, 4, 1), (1, 11, 11, 1), (1, 26, 66, 26, 1), (1, 57, 302, 302, 57, 1),
                (1, 120, 1191, 2416, 1191, 120, 1)]
        for size, row in enumerate(rows, 1):
            self.assertEqual(room_sizes(even_book(size, size)), row)

    def test_how_many_towers(self):
        for book in room_books(7):
            row = room_sizes(book)
            self.assertEqual(len(row), book.rank)
            self.assertEqual(row, row[::-1])
            if book.size < 7:
                self.assertEqual(row, tuple(len(tidy_towers(book, k)) for k in range(book.rank)))

    def test_towers_by_the_rules(self):
        # As many as there are towers free of one another, once the rules are taken as 0 (modulo a prime).
        for book in room_books(4):
            for degree in range(book.rank + 1):
                self.assertEqual(free_of_rules(book, degree), len(tidy_towers(book, degree)))


class Errors(unittest.TestCase):
    def told(self, book):
        found = set()
        for call in IN_THE_ROOM:
            with self.assertRaises((BadBook, TooMany)) as caught:
                call(book)
            error = caught.exception
            found.add((type(error).__name__, error.part if isinstance(error, BadBook) else error.most))
        self.assertEqual(len(found), 1)
        return found.pop()

    def test_no_book(self):
        for thing in [*ODDS, 0]:
            self.assertEqual(self.told(thing), ("BadBook", None))

    def test_idle_things(self):
        for book in (book_of(2, (0,)), web_book(2, [(0, 1), (0, 0)]), even_book(0, 1), even_book(0, 8),
                     side_by_side(even_book(0, 1), even_book(7, 7))):
            self.assertEqual(self.told(book), ("BadBook", "idle"))

    def test_rank_zero(self):
        self.assertEqual(self.told(Book(0, [()])), ("BadBook", "rank"))

    def test_eight_things(self):
        for book in (even_book(1, 8), even_book(4, 8), even_book(8, 8)):
            self.assertEqual(self.told(book), ("TooMany", 7))

    def test_seven_things(self):
        self.assertEqual(room_sizes(even_book(2, 7)), (1, 1))


if __name__ == "__main__":
    unittest.main()

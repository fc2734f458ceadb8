"""Point 2: what holds over the whole program, one test for each of its rows."""

import unittest
from itertools import combinations

from flatrooms.alike import alike, plain_book, renamed
from flatrooms.backrows import back_row
from flatrooms.books import Book
from flatrooms.flats import above, below, flats
from flatrooms.forms import form_table
from flatrooms.journals import journal_text, led_live
from flatrooms.live import LiveBook
from flatrooms.makers import even_book
from flatrooms.mirrors import bent_row, mirror_row
from flatrooms.mixes import falling_chains, mixed_numbers
from flatrooms.ownrows import own_row, own_rows
from flatrooms.pairing import opposite_table
from flatrooms.ranks import book_of_bound, free_lots, idle, least_bound, rank, sure
from flatrooms.risemaps import rise_map
from flatrooms.rising import flat_row
from flatrooms.rooms import added, tidied
from flatrooms.sides import cut_short, drawn_in, left_out, made_freer, side_by_side, turned
from flatrooms.signs import short_row, sign_row, signs
from flatrooms.sizerows import sizes_by_signs, sizes_by_thing
from flatrooms.splits import split_by
from flatrooms.steps import path_table
from flatrooms.sweeps import sweep
from flatrooms.tables import determinant, sign_counts
from flatrooms.towers import room_sizes, tidy_towers
from flatrooms.unbroken import unbroken
from flatrooms.weights import weight_sum
from tests.livehelp import can_be_done, chance_deed, chance_lot, runs
from tests.roomhelp import chance_sum, choose
from tests.samples import many_books, orders_of, parts_of, relaxable, room_books
from tests.weighthelp import bent_weights


def squares_hold(row):
    return all(row[k] ** 2 >= row[k - 1] * row[k + 1] for k in range(1, len(row) - 1))


class Whole(unittest.TestCase):
    def test_a_books_tell_one_another(self):
        for book in many_books():
            lots, things = free_lots(book), range(book.size)
            longest = [lot for lot in lots if len(lot) == book.rank]
            self.assertEqual(Book(book.size, longest), book)
            self.assertEqual(book_of_bound(book.size, least_bound(book)), book)
            if book.size < 7:
                ranks = {lot: rank(book, lot) for lot in parts_of(things)}
                self.assertEqual([lot for lot in sorted(ranks) if ranks[lot] == len(lot)], lots)
                bases = [lot for lot in ranks if len(lot) == ranks[lot] == ranks[tuple(things)]]
                self.assertEqual(Book(book.size, bases), book)
            self.assertEqual(turned(turned(book)), book)
            self.assertEqual((idle(turned(book)), sure(turned(book))), (sure(book), idle(book)))
            for thing in things:
                self.assertEqual(turned(left_out(book, thing)), drawn_in(turned(book), thing))
            if book.rank > 0:
                self.assertEqual(free_lots(cut_short(book)), [lot for lot in lots if len(lot) < book.rank])
            if book.size < 7:
                both = side_by_side(book, even_book(1, 2))
                self.assertEqual(left_out(left_out(both, book.size), book.size).bases, book.bases)
                self.assertEqual((len(both.bases), both.rank), (2 * len(book.bases), book.rank + 1))
            for lot in relaxable(book):
                self.assertEqual(made_freer(book, lot).bases, tuple(sorted([*book.bases, lot])))
            other = renamed(book, orders_of(book, 3)[-1])
            self.assertTrue(alike(book, other))
            if book.size < 6:
                self.assertEqual(plain_book(book), plain_book(other))

    def test_b_the_row_of_signs(self):
        for book in many_books():
            row = sign_row(book)
            if idle(book):
                self.assertEqual((set(row), unbroken(book)), ({0}, []))
                continue
            told = signs(book)
            by_flats = [sum(told[flat] for flat in of_rank) for of_rank in flats(book)]
            lengths = [len(lot) for lot in unbroken(book)]
            by_lots = [(-1) ** k * lengths.count(k) for k in range(book.rank + 1)]
            self.assertEqual(list(row), by_flats)
            self.assertEqual(list(row), by_lots)
            swept = sweep(book, list(range(book.size)))
            for k, number in enumerate(row):
                ways = sum(many * choose(i, book.rank - k) for (i, outer), many in swept.items() if outer == 0)
                self.assertEqual(abs(number), ways)
            for thing in range(book.size):
                if thing not in sure(book):
                    left, drawn = sign_row(left_out(book, thing)), (0, *sign_row(drawn_in(book, thing)))
                    self.assertEqual(row, tuple(a - b for a, b in zip(left, drawn, strict=True)))

    def test_c_the_room(self):
        for seed, book in enumerate(room_books(5)):
            d, sizes = book.rank - 1, room_sizes(book)
            self.assertEqual(sizes, sizes[::-1])
            sums = [weight_sum(book, bent_weights(book.size, seed + k)) for k in range(d)]
            counts = [0, 0]
            for k in range(d // 2 + 1):
                self.assertIn(determinant(opposite_table(book, k)), (1, -1))
                path = sums[:d - 2 * k]
                self.assertNotEqual(determinant(path_table(book, k, path)), 0)
                # The parts that are new at k have signs by turns.
                counts[k % 2] += sizes[k] - (sizes[k - 1] if k else 0)
                self.assertEqual(sign_counts(form_table(book, k, path)), (*counts, 0))

    def test_d_mixed_powers(self):
        for book in room_books(6):
            row = short_row(book)
            self.assertEqual(mixed_numbers(book), row)
            self.assertTrue(squares_hold(row))
            self.assertTrue(squares_hold(sign_row(book)))
            self.assertEqual(row, tuple(len(falling_chains(book, k)) for k in range(book.rank)))

    def test_e_a_thing_left_out(self):
        for book in room_books(5):
            sizes = room_sizes(book)
            self.assertEqual(sizes_by_signs(book), sizes)
            for thing in range(book.size if book.size > 1 else 0):
                self.assertEqual(sizes_by_thing(book, thing), sizes)
                for degree in range(book.rank):
                    towers = chance_sum(tidy_towers(book, degree), degree)
                    total = {}
                    for part in split_by(book, thing, towers).values():
                        total = added(book, total, part, 1)
                    self.assertEqual(total, tidied(book, towers))

    def test_f_flats_of_opposite_ranks_and_own_rows(self):
        for book in many_books():
            row = flat_row(book)
            for low, high in combinations(range(book.rank + 1), 2):
                if low + high <= book.rank:
                    self.assertLessEqual(row[low], row[high])
                    self.assertEqual(len(rise_map(book, low, high)), row[low])
            own = own_row(book)
            self.assertEqual((own[0], min(own) >= 0), (1, True))
            self.assertGreaterEqual(min(back_row(book)), 0)
            self.assertGreaterEqual(min(bent_row(book)), 0)
            self.assertEqual(mirror_row(book), mirror_row(book)[::-1])
            if book.size < 6:
                for flat, told in own_rows(book).items():
                    self.assertEqual(told, own_row(above(book, flat)))
                    self.assertEqual(below(book, flat).rank + above(book, flat).rank, book.rank)

    def test_g_a_live_book(self):
        for start, chance in runs(42, seed=2):
            live = LiveBook(start)
            for count in range(30):
                deed, move = chance_deed(live.book, chance), chance.random()
                if move < 0.6 and can_be_done(live.book, deed):
                    live.do(deed)
                    live.watch("ab"[count % 2], chance_lot(live.book, chance))
                elif live.standing and move < 0.8:
                    live.undo()
                    if move < 0.7:
                        live.redo()
                fresh = LiveBook(start)
                for done in live.deeds():
                    fresh.do(done)
                led = led_live(journal_text(live))
                for other in (fresh, led):
                    self.assertEqual((other.book, other.told()), (live.book, live.told()))
                    self.assertEqual(other.standing, live.standing)


if __name__ == "__main__":
    unittest.main()

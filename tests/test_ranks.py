"""Point 11: ranks, closures, free and bound lots, and the book of bound lots."""

import copy
import unittest
from itertools import combinations

from flatrooms.books import Book
from flatrooms.errors import BadBook, BadLot
from flatrooms.makers import even_book, table_book, web_book
from flatrooms.ranks import book_of_bound, closure, free_lots, idle, least_bound, rank, sure
from tests.samples import (CUBE, FANO, ODDS, many_books, parts_of, plain_closure, plain_rank,
                           small_books)

BAD_LOTS = [*ODDS, 0, [0], [], (1, 0), (0, 0), (3,), (-1,), (0, 1, 2, 3), ("0",), (0.0,), (0, None)]


class Ranks(unittest.TestCase):
    def test_by_hand(self):
        book = web_book(3, [(0, 1), (1, 2), (0, 2), (1, 1)])
        self.assertEqual(rank(book, (0, 1, 2)), 2)
        self.assertEqual(rank(book, (3,)), 0)
        self.assertEqual(rank(book, ()), 0)
        self.assertEqual(closure(book, ()), (3,))
        self.assertEqual(closure(book, (0,)), (0, 3))
        self.assertEqual(closure(book, (0, 2)), (0, 1, 2, 3))
        self.assertEqual(free_lots(book), [(), (0,), (0, 1), (0, 2), (1,), (1, 2), (2,)])
        self.assertEqual(least_bound(book), [(0, 1, 2), (3,)])
        self.assertEqual((idle(book), sure(book)), ((3,), ()))
        self.assertEqual((idle(Book(3, [(0, 1)])), sure(Book(3, [(0, 1)]))), ((2,), (0, 1)))

    def test_no_things_and_rank_zero(self):
        empty = Book(0, [()])
        self.assertEqual((rank(empty, ()), closure(empty, ()), free_lots(empty), least_bound(empty)),
                         (0, (), [()], []))
        self.assertEqual((idle(empty), sure(empty)), ((), ()))
        nothing = even_book(0, 8)
        self.assertEqual(closure(nothing, ()), tuple(range(8)))
        self.assertEqual(least_bound(nothing), [(x,) for x in range(8)])
        self.assertEqual((idle(nothing), sure(nothing)), (tuple(range(8)), ()))
        self.assertEqual(sure(even_book(8, 8)), tuple(range(8)))

    def test_ranks_and_closures_of_all_lots(self):
        for book in many_books():
            if book.size <= 7:
                for lot in parts_of(range(book.size)):
                    self.assertEqual(rank(book, lot), plain_rank(book, lot))
                    if book.size <= 6:
                        self.assertEqual(closure(book, lot), plain_closure(book, lot))

    def test_free_and_bound_lots(self):
        for book in many_books():
            lots = parts_of(range(book.size))
            free = [lot for lot in lots if plain_rank(book, lot) == len(lot)]
            self.assertEqual(free_lots(book), sorted(free))
            known = set(free)
            least = [lot for lot in lots if lot not in known
                     and all(part in known for part in combinations(lot, len(lot) - 1))]
            self.assertEqual(least_bound(book), sorted(least))
            self.assertIs(type(free_lots(book)), list)
            self.assertIs(type(least_bound(book)), list)

    def test_idle_and_sure(self):
        for book in many_books():
            self.assertEqual(idle(book), tuple(x for x in range(book.size)
                                               if not any(x in base for base in book.bases)))
            self.assertEqual(sure(book), tuple(x for x in range(book.size)
                                               if all(x in base for base in book.bases)))

    def test_two_lots_and_what_they_have(self):
        for book in small_books():
            for one in parts_of(range(book.size)):
                self.assertEqual(closure(book, closure(book, one)), closure(book, one))
                for other in parts_of(range(book.size)):
                    both = tuple(sorted(set(one) | set(other)))
                    common = tuple(sorted(set(one) & set(other)))
                    self.assertGreaterEqual(rank(book, one) + rank(book, other),
                                            rank(book, both) + rank(book, common))

    def test_bad_lots(self):
        book = even_book(2, 3)
        for lot in BAD_LOTS:
            for asked in (rank, closure):
                with self.assertRaises(BadLot):
                    asked(book, lot)

    def test_bad_books_come_first(self):
        for thing in [*ODDS, 0, (3, ((0,),)), Book]:
            for asked in (free_lots, least_bound, idle, sure):
                with self.assertRaises(BadBook) as caught:
                    asked(thing)
                self.assertIsNone(caught.exception.part)
            for asked in (rank, closure):
                with self.assertRaises(BadBook) as caught:
                    asked(thing, "no lot")
                self.assertIsNone(caught.exception.part)

    def test_by_names_and_new_lists(self):
        book = even_book(1, 2)
        self.assertEqual(rank(lot=(0, 1), book=book), 1)
        self.assertEqual(closure(lot=(0,), book=book), (0, 1))
        self.assertEqual((idle(book=book), sure(book=book)), ((), ()))
        for asked in (free_lots, least_bound):
            asked(book=book).clear()
            self.assertTrue(asked(book))


class BookOfBound(unittest.TestCase):
    def bad(self, part, size, lots):
        with self.assertRaises(BadBook) as caught:
            book_of_bound(size, lots)
        self.assertEqual(caught.exception.part, part)

    def test_by_hand(self):
        self.assertEqual(book_of_bound(3, [(0, 1, 2)]), even_book(2, 3))
        self.assertEqual(book_of_bound(3, [(0, 1, 2), (0, 1, 2)]), even_book(2, 3))
        self.assertEqual(book_of_bound(3, ()), even_book(3, 3))
        self.assertEqual(book_of_bound(0, []), Book(0, [()]))
        self.assertEqual(book_of_bound(lots=[(0,), (1,)], size=2), even_book(0, 2))

    def test_there_and_back(self):
        for book in many_books():
            lots = least_bound(book)
            before = copy.deepcopy(lots)
            self.assertEqual(book_of_bound(book.size, lots), book)
            self.assertEqual(book_of_bound(book.size, tuple(lots[::-1] + lots[:2])), book)
            self.assertEqual(lots, before)

    def test_each_choice_of_lots(self):
        for size in (2, 3):
            lots = parts_of(range(size))[1:]
            for choice in parts_of(range(len(lots))):
                self.judge(size, [lots[at] for at in choice])

    def test_choices_of_four_things(self):
        lots = [lot for lot in parts_of(range(4)) if len(lot) in (2, 3)]
        for choice in parts_of(range(len(lots))):
            self.judge(4, [lots[at] for at in choice])

    def judge(self, size, lots):
        sets = [set(lot) for lot in lots]
        apart = not any(one < other for one in sets for other in sets)
        passed = all(any(third <= (one | other) - {x} for third in sets)
                     for one in sets for other in sets if one != other for x in one & other)
        if apart and passed:
            self.assertEqual(least_bound(book_of_bound(size, lots)), sorted(lots))
        else:
            self.bad("bound", size, lots)

    def test_wrong_lots(self):
        for lots in [*ODDS, 0, [()], [(0,), ()], [[0]], [(0,), [1]], [(3,)], [(1, 0)], [(0, 0)], [(-1,)],
                     [0], [(0,), (0, 1)], [(0, 1), (1, 2)], [("a",)], {(0,): 1}]:
            self.bad("bound", 3, lots)

    def test_size_comes_first(self):
        for size in [*ODDS, -1, 9]:
            self.bad("size", size, [()])
            self.bad("size", size, [])

    def test_great_ones(self):
        for book in (even_book(4, 8), table_book(2, CUBE), table_book(2, FANO)):
            lots = least_bound(book)
            self.assertEqual(book_of_bound(book.size, lots), book)
            self.bad("bound", book.size, lots[1:])


if __name__ == "__main__":
    unittest.main()

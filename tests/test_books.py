"""Point 10: books."""

import copy
import unittest
from itertools import combinations

from flatrooms.alike import renamed
from flatrooms.books import Book
from flatrooms.errors import BadBook
from tests.samples import ODDS, many_books, orders_of, parts_of


def exchanges(bases):
    """Whether each thing of a base can be exchanged, straight from the definition."""
    known = [set(base) for base in bases]
    return all(any((one - {x}) | {y} in known for y in other - one)
               for one in known for other in known for x in one - other)


class Books(unittest.TestCase):
    def bad(self, part, size, bases):
        with self.assertRaises(BadBook) as caught:
            Book(size, bases)
        self.assertEqual(caught.exception.part, part)

    def test_attributes(self):
        book = Book(4, [(1, 2), (0, 2), (0, 1), (0, 2), (0, 3), (1, 3), (2, 3)])
        self.assertEqual(book.size, 4)
        self.assertEqual(book.bases, ((0, 1), (0, 2), (0, 3), (1, 2), (1, 3), (2, 3)))
        self.assertIs(type(book.bases), tuple)
        self.assertEqual(book.rank, 2)

    def test_parameters_by_name_and_bases_as_a_tuple(self):
        self.assertEqual(Book(bases=((0,), (1,)), size=2), Book(2, [(1,), (0,)]))

    def test_it_shows_what_it_is_made_of(self):
        self.assertEqual(repr(Book(2, [(1,), (0,)])), "Book(2, ((0,), (1,)))")

    def test_least_and_greatest(self):
        self.assertEqual((Book(0, [()]).size, Book(0, [()]).bases, Book(0, [()]).rank), (0, ((),), 0))
        self.assertEqual(Book(8, [()]).rank, 0)
        self.assertEqual(Book(8, [tuple(range(8))]).rank, 8)
        self.assertEqual(len(Book(8, list(combinations(range(8), 4))).bases), 70)

    def test_bad_size(self):
        for size in [*ODDS, -1, 9, 10 ** 20, 1.0, (3,)]:
            self.bad("size", size, [()])
            self.bad("size", size, "nothing")

    def test_bad_bases(self):
        for bases in [*ODDS, [], (), 0, 3, {(0,): 1}, {(0,)}, [0], [[0]], [[0], [1]], [(0,), [1]], "01",
                      [(1, 0)], [(0, 0)], [(0, 3)], [(-1,)], [(0,), ()], [(0,), (1, 2)], [(True,)],
                      [(0,), None], [("0",)], [(0.0,)], [((0,),)], iter([(0,)])]:
            self.bad("bases", 3, bases)

    def test_a_thing_is_below_the_size(self):
        self.bad("bases", 0, [(0,)])
        self.bad("bases", 8, [(8,)])
        self.assertEqual(Book(8, [(7,)]).bases, ((7,),))

    def test_bad_exchange(self):
        self.bad("exchange", 4, [(0, 1), (2, 3)])
        self.bad("exchange", 4, ((2, 3), (0, 1), (0, 1)))
        self.bad("exchange", 6, [(0, 1, 2), (3, 4, 5)])
        self.bad("exchange", 4, [(0, 1), (1, 2), (2, 3)])
        self.bad("exchange", 5, [(0, 1), (0, 2), (0, 3), (0, 4), (1, 2), (3, 4)])

    def test_exchange_of_each_choice_of_lots(self):
        for size, rank in [(3, 1), (3, 2), (4, 1), (4, 2), (4, 3)]:
            lots = list(combinations(range(size), rank))
            for bases in parts_of(range(len(lots))):
                chosen = [lots[at] for at in bases]
                if not chosen:
                    self.bad("bases", size, chosen)
                elif exchanges(chosen):
                    self.assertEqual(Book(size, chosen).bases, tuple(chosen))
                else:
                    self.bad("exchange", size, chosen)

    def test_exchange_without_one_base(self):
        for book in many_books():
            if 2 <= len(book.bases) <= 20:
                for at in (0, len(book.bases) // 2, len(book.bases) - 1):
                    fewer = [*book.bases[:at], *book.bases[at + 1:]]
                    if exchanges(fewer):
                        self.assertEqual(Book(book.size, fewer).bases, tuple(fewer))
                    else:
                        self.bad("exchange", book.size, fewer)

    def test_equal(self):
        self.assertEqual(Book(3, [(0,), (1,)]), Book(3, ((1,), (0,), (0,))))
        self.assertNotEqual(Book(3, [(0,), (1,)]), Book(2, [(0,), (1,)]))
        self.assertNotEqual(Book(3, [(0,), (1,)]), Book(3, [(0,), (2,)]))
        self.assertFalse(Book(1, [(0,)]) != Book(1, [(0,)]))
        for thing in [*ODDS, 0, (), (3, ((0,), (1,)))]:
            self.assertFalse(Book(3, [(0,), (1,)]) == thing)
            self.assertTrue(Book(3, [(0,), (1,)]) != thing)

    def test_what_is_handed_in_is_not_changed_and_not_kept(self):
        bases = [(1,), (0,), (1,)]
        before = copy.deepcopy(bases)
        book = Book(2, bases)
        self.assertEqual(bases, before)
        bases.append((7, 7))
        self.assertEqual(book.bases, ((0,), (1,)))

    def test_many_books_are_told_by_their_bases(self):
        for book in many_books():
            self.assertTrue(exchanges(book.bases))
            self.assertEqual(Book(book.size, list(book.bases[::-1])), book)
            self.assertEqual(list(book.bases), sorted(set(book.bases)))
            self.assertEqual({len(base) for base in book.bases}, {book.rank})
            for order in orders_of(book, 2):
                self.assertEqual(renamed(book, order) == book, renamed(book, order).bases == book.bases)


if __name__ == "__main__":
    unittest.main()

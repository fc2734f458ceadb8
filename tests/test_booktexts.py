"""Point 102, the first part: books as texts."""

import unittest

from flatrooms.books import Book
from flatrooms.booktexts import book_of_text, book_text
from flatrooms.errors import BadBook, BadText
from flatrooms.makers import even_book, table_book
from tests.flathelp import empty_book, order_books
from tests.samples import CUBE, FANO, ODDS, book_of, small_books
from tests.texthelp import NO_TEXTS, book_told, changed


class ByHand(unittest.TestCase):
    def test_books(self):
        for book, text in ((even_book(2, 3), "book 3\n0 1\n0 2\n1 2"), (empty_book(), "book 0\n-"),
                           (even_book(0, 8), "book 8\n-"), (even_book(1, 2), "book 2\n0\n1"),
                           (book_of(4, (1, 3), (0, 1)), "book 4\n0 1\n1 3"),
                           (even_book(8, 8), "book 8\n0 1 2 3 4 5 6 7")):
            self.assertEqual(book_text(book), text)
            self.assertEqual(book_of_text(text), book)
        self.assertEqual(book_text(book=even_book(1, 1)), "book 1\n0")
        self.assertEqual(book_of_text(text="book 1\n0"), even_book(1, 1))


class Led(unittest.TestCase):
    def test_back(self):
        for book in order_books() + small_books(5) + [table_book(2, CUBE), even_book(4, 8)]:
            text = book_text(book)
            self.assertIs(type(text), str)
            found = book_of_text(text)
            self.assertIs(type(found), Book)
            self.assertEqual(found, book)
            self.assertEqual(book_text(found), text)


class Wrong(unittest.TestCase):
    def refused(self, text, at):
        with self.assertRaises(BadText) as caught:
            book_of_text(text)
        self.assertEqual(caught.exception.at, at, repr(text))

    def test_no_strings(self):
        for thing in NO_TEXTS:
            self.refused(thing, 0)

    def test_no_books(self):
        for thing in [*ODDS, 0, "book 0\n-"]:
            with self.assertRaises(BadBook) as caught:
                book_text(thing)
            self.assertIsNone(caught.exception.part)

    def test_the_first_line(self):
        for line in ("", "book", "book ", "book 9", "book -1", "book 10", "book 03", "book +3", "Book 3", "BOOK 3",
                     "book  3", " book 3", "book 3 ", "book -", "book 3 3", "book\t3", "3", "book three", "bases 3",
                     "book \u0663", "book 3\r", "book -0", "book3", "book 3.0", "book " + "9" * 30):
            for rest in ("", "\n0 1\n0 2\n1 2", "\nno row", "\n"):
                self.refused(line + rest, 0)

    def test_the_first_wrong_line_is_told(self):
        for line in ("", " ", "0  1", " 0 1", "0 1 ", "1 0", "0 8", "-1 0", "00 1", "0 01", "+0 1", "0,1", "0 a",
                     "- 0", "0 -", "--", "-0", "0\t1", "0 1\r", "10", "\u0660 1", "0 1 2 3 4 5 6 7 8", "book 3",
                     "0 / 1"):
            self.refused("book 3\n" + line, 1)
            self.refused("book 3\n0 1\n0 2\n" + line, 3)
            self.refused("book 3\n0 1\n" + line + "\n0 2\n" + line, 2)
            self.refused("book 3\n" + line + "\nno row", 1)
            # Each line of this form comes ahead of what no book has.
            self.refused("book 3\n0 5\n" + line, 2)
            self.refused("book 3\n0 1\n0 1\n" + line, 3)

    def test_a_newline_or_an_empty_line(self):
        self.refused("book 3\n0 1\n0 2\n", 3)
        self.refused("\nbook 3\n0 1", 0)
        self.refused("book 3\n\n0 1", 1)
        self.refused("book 3\n", 1)
        self.refused("\n", 0)

    def test_all_lines_right_but_no_book(self):
        for text in ("book 3", "book 0", "book 3\n0 1\n0 1", "book 3\n0 2\n0 1", "book 3\n0 3", "book 2\n0 1 2",
                     "book 0\n0", "book 3\n0\n0 1", "book 3\n-\n0", "book 4\n0 1\n2 3", "book 0\n-\n-", "book 1\n7",
                     "book 2\n1\n0"):
            self.refused(text, len(text.split("\n")))

    def test_each_line_changed_a_little(self):
        fine = 0
        for book in (even_book(2, 3), empty_book(), even_book(0, 2), even_book(4, 6), table_book(2, FANO),
                     even_book(1, 1), book_of(4, (0, 1), (0, 2), (1, 3), (2, 3)), even_book(7, 8)):
            lines = book_text(book).split("\n")
            for at, line in enumerate(lines):
                others = changed(line) + [line + "\n", "\n" + line, line + "\n" + line]
                for text in ["\n".join([*lines[:at], other, *lines[at + 1:]]) for other in others]:
                    told = book_told(text)
                    if isinstance(told, int):
                        self.refused(text, told)
                    else:
                        self.assertEqual(book_of_text(text), told)
                        self.assertEqual(book_text(told), text)
                        fine += 1
        self.assertGreater(fine, 0)


if __name__ == "__main__":
    unittest.main()

"""Books as texts, written and read."""

from flatrooms.books import MOST, Book, need_book
from flatrooms.errors import BadBook, BadText
from flatrooms.kinds import is_number_within
from flatrooms.wordings import read_lot, read_number, row_text


def book_text(book):
    """The line of the size, then the row of each base."""
    need_book(book)
    return "\n".join([f"book {book.size}", *[row_text(base) for base in book.bases]])


def book_of_text(text):
    """The book with this text; any other value is refused by the index of its first wrong line."""
    if not isinstance(text, str):
        raise BadText(0)
    lines = text.split("\n")
    size = _read_size(lines[0])
    if size is None:
        raise BadText(0)
    bases = [read_lot(line, MOST) for line in lines[1:]]
    if None in bases:
        raise BadText(1 + bases.index(None))
    book = _book_of(size, bases)
    # The bases of a book ascend, each once: those of the text may do otherwise.
    if book is None or list(book.bases) != bases:
        raise BadText(len(lines))
    return book


def _read_size(line):
    """The size that the first line of a text tells, None if it tells none."""
    word, _, rest = line.partition(" ")
    size = read_number(rest)
    return size if word == "book" and is_number_within(size, 0, MOST) else None


def _book_of(size, bases):
    try:
        return Book(size, bases)
    except BadBook:
        return None

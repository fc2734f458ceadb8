"""Live books: books that deeds change, forth and back, and lots that are watched meanwhile."""

from flatrooms.alike import renamed
from flatrooms.books import MOST, Book
from flatrooms.errors import BadDeed, BadName, BadStart, FlatError, NothingLeft, NoWatch, TooMany
from flatrooms.kinds import is_list, is_list_of_numbers, is_number
from flatrooms.makers import even_book, table_book, web_book
from flatrooms.parts import things_beyond
from flatrooms.ranks import idle, need_lot, rank, sure
from flatrooms.rising import flat_row
from flatrooms.sides import cut_short, drawn_in, left_out, made_freer, need_thing, side_by_side, turned
from flatrooms.signs import sign_row

BARE_DEEDS = ("turn", "short")
THING_DEEDS = ("leave", "draw", "twin")
LIST_DEEDS = ("freer", "rename")
LETTERS = "abcdefghijklmnopqrstuvwxyz"
MOST_LETTERS = 8


class LiveBook:
    """A book that deeds change.

    start is what it was started with, book the present book, standing the number of deeds done. Of each deed done
    it keeps the book and the watched lots ahead of it; these are never changed, but replaced by new ones.
    """

    def __init__(self, start):
        self.book = started(start)
        self.start = _with_tuples(start)
        self.standing = 0
        self._lots = {}
        self._done = []
        self._back = []

    def do(self, deed):
        """Does a deed; those taken back are gone."""
        if not is_deed(deed):
            raise BadDeed("no deed")
        self._lead(_with_tuples(deed))
        self._back = []

    def deeds(self):
        """The list of the deeds done, in sequence."""
        return [row[0] for row in self._done]

    def undo(self):
        """Takes the last deed back."""
        if not self._done:
            raise NothingLeft("no deed is done")
        deed, book, lots = self._done.pop()
        self.book = book
        self._lots = lots
        self.standing -= 1
        self._back.append(deed)

    def redo(self):
        """Does the deed last taken back again."""
        if not self._back:
            raise NothingLeft("no deed is taken back")
        self._lead(self._back[-1])
        self._back.pop()

    def told(self):
        """What the present book is like, by ascending words."""
        book = self.book
        return {"bases": len(book.bases), "flats": flat_row(book), "idle": idle(book), "rank": book.rank,
                "signs": sign_row(book), "size": book.size, "sure": sure(book)}

    def watch(self, name, lot):
        """Watches a lot of the present book under this name."""
        if not is_name(name):
            raise BadName("no string of 1 to 8 letters from a to z")
        need_lot(self.book, lot)
        self._lots = {**self._lots, name: lot}

    def unwatch(self, name):
        """Lets go what is watched under this name."""
        if not isinstance(name, str) or name not in self._lots:
            raise NoWatch(name)
        self._lots = {other: self._lots[other] for other in self._lots if other != name}

    def watched(self):
        """The ascending dict from watched names to the lot, its rank, and the rank of all things outside of it."""
        found = {}
        for name in sorted(self._lots):
            lot = self._lots[name]
            found[name] = (lot, rank(self.book, lot), rank(self.book, things_beyond(self.book, lot)))
        return found

    def _lead(self, deed):
        """Does a deed, one with tuples for lists; if it is refused, nothing is changed."""
        book = _book_behind(self.book, deed)
        lots = {name: _lot_behind(self._lots[name], deed) for name in self._lots}
        self._done.append((deed, self.book, self._lots))
        self.book = book
        self._lots = lots
        self.standing += 1


def started(start):
    """The book of a start, which may be any value."""
    if not isinstance(start, tuple) or len(start) != 3 or not isinstance(start[0], str):
        raise BadStart("no tuple of a word and two items")
    word, first, second = start
    if word == "bases":
        return Book(first, second)
    if word == "even":
        return even_book(first, second)
    if word == "table":
        return table_book(first, second)
    if word == "web":
        return web_book(first, second)
    raise BadStart("no word of a start")


def is_start(thing):
    """Whether thing, any value, is a start of a book."""
    try:
        started(thing)
    except FlatError:
        return False
    return True


def is_deed(thing):
    """Whether thing, any value, is a deed."""
    if not isinstance(thing, tuple) or len(thing) == 0 or not isinstance(thing[0], str):
        return False
    word = thing[0]
    if len(thing) != 2:
        return len(thing) == 1 and word in BARE_DEEDS
    told = thing[1]
    if word in THING_DEEDS:
        return is_number(told) and told >= 0
    if word in LIST_DEEDS:
        return is_list_of_numbers(told) and all([number >= 0 for number in told])
    return word == "beside" and is_start(told)


def was_done(live, deed):
    """Lets live do a deed, which may be any value; tells whether it could."""
    try:
        live.do(deed)
    except FlatError:
        return False
    return True


def is_name(thing):
    """Whether thing, any value, is a string of 1 to 8 letters from a to z."""
    if not isinstance(thing, str) or not 1 <= len(thing) <= MOST_LETTERS:
        return False
    return all([letter in LETTERS for letter in thing])


def _with_tuples(thing):
    """A start or a deed with tuples for the lists in it, at every depth."""
    if not is_list(thing):
        return thing
    return tuple([_with_tuples(part) for part in thing])


def _book_behind(book, deed):
    """The book that a deed makes of a book."""
    word = deed[0]
    if word == "turn":
        return turned(book)
    if word == "short":
        return cut_short(book)
    told = deed[1]
    if word == "leave":
        return left_out(book, told)
    if word == "draw":
        return drawn_in(book, told)
    if word == "twin":
        return _with_twin(book, told)
    if word == "freer":
        return made_freer(book, told)
    if word == "rename":
        return renamed(book, told)
    return side_by_side(book, started(told))


def _with_twin(book, thing):
    """The book with a thing more, the last one, that stands for thing in each base."""
    need_thing(book, thing)
    if book.size == MOST:
        raise TooMany(MOST)
    others = [tuple([other for other in base if other != thing]) for base in book.bases if thing in base]
    return Book(book.size + 1, [*book.bases, *[base + (book.size,) for base in others]])


def _lot_behind(lot, deed):
    """The lot to which a deed leads a watched lot."""
    word = deed[0]
    if word in ("leave", "draw"):
        thing = deed[1]
        return tuple([other - 1 if other > thing else other for other in lot if other != thing])
    if word == "rename":
        order = deed[1]
        return tuple(sorted([order[thing] for thing in lot]))
    return lot

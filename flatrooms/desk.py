"""A desk: a live book that is led, and asked, by lines."""

from flatrooms.booktexts import book_text
from flatrooms.books import MOST
from flatrooms.deedtexts import read_deed
from flatrooms.errors import FlatError
from flatrooms.journals import journal_text
from flatrooms.live import LiveBook, is_name, was_done
from flatrooms.wordings import read_lot, row_text

NUMBERS = ("size", "rank", "bases")
ROWS = ("flats", "signs", "idle", "sure")


class Desk:
    """Answers lines by strings; live is the live book that they lead."""

    def __init__(self, start):
        self.live = LiveBook(start)

    def say(self, line):
        """The answer to a line, which may be any value."""
        if not isinstance(line, str):
            return "?"
        deed = read_deed(line)
        if deed is not None:
            return _answer(was_done(self.live, deed))
        if line in ("undo", "redo"):
            return self._tried(line, "", ())
        if line in NUMBERS:
            return str(self.live.told()[line])
        if line in ROWS:
            return row_text(self.live.told()[line])
        if line == "book":
            return book_text(self.live.book)
        if line == "journal":
            return journal_text(self.live)
        return self._watching(line)

    def _watching(self, line):
        """The answer to the lines of watched lots, and to all else."""
        word, _, rest = line.partition(" ")
        if word in ("drop", "lot") and is_name(rest):
            return self._lot(rest) if word == "lot" else self._tried(word, rest, ())
        name, _, row = rest.partition(" ")
        lot = read_lot(row, MOST)
        if word == "watch" and is_name(name) and lot is not None:
            return self._tried(word, name, lot)
        return "?"

    def _tried(self, word, name, lot):
        """Lets the live book do what the word says, with this name and lot if they matter; tells whether it could."""
        try:
            if word == "undo":
                self.live.undo()
            elif word == "redo":
                self.live.redo()
            elif word == "watch":
                self.live.watch(name, lot)
            else:
                self.live.unwatch(name)
        except FlatError:
            return _answer(False)
        return _answer(True)

    def _lot(self, name):
        watched = self.live.watched()
        if name not in watched:
            return _answer(False)
        lot, inner, outer = watched[name]
        return f"{row_text(lot)} / {inner} {outer}"


def _answer(was_fine):
    return "done" if was_fine else "refused"

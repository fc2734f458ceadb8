"""Point 103, the second part: the desk."""

import re
import unittest

from flatrooms.booktexts import book_text
from flatrooms.deedtexts import deed_text
from flatrooms.desk import Desk
from flatrooms.errors import BadStart, FlatError, NothingLeft, NoWatch
from flatrooms.journals import journal_text, led_live
from flatrooms.live import LiveBook
from tests.livehelp import NO_STARTS, REFUSED, STARTS, can_be_done, chance_deed, chance_lot, runs, tuples
from tests.samples import ODDS
from tests.texthelp import NO_TEXTS, changed, deed_told

BARE = ("undo", "redo", "size", "rank", "bases", "flats", "signs", "idle", "sure", "book", "journal")


def state(live):
    return live.start, live.book, live.standing, live.deeds(), live.told(), live.watched()


def known(line):
    """Whether a line has one of the forms that the desk knows."""
    if line in BARE or deed_told(line) is not None or re.fullmatch("(drop|lot) [a-z]{1,8}", line):
        return True
    if not re.fullmatch("watch [a-z]{1,8} (-|[0-7]( [0-7])*)", line):
        return False
    numbers = re.findall("[0-7]", line)
    return numbers == sorted(set(numbers))


def row(numbers):
    return " ".join(str(number) for number in numbers) or "-"


class Talks(unittest.TestCase):
    def talk(self, desk, *lines):
        """Lines and their answers by turns."""
        for line, answer in zip(lines[::2], lines[1::2], strict=True):
            found = desk.say(line)
            self.assertIs(type(found), str)
            self.assertEqual(found, answer, line)

    def test_by_hand(self):
        self.talk(Desk(("even", 2, 3)), "flats", "1 3 1", "leave 0", "done", "signs", "1 -2 1", "twin 1", "done",
                  "book", "book 3\n0 1\n0 2")

    def test_what_is_told(self):
        self.talk(Desk(start=("bases", 4, [(0, 1), (0, 2)])), "size", "4", "rank", "2", "bases", "2", "flats", "1 2 1",
                  "signs", "0 0 0", "idle", "3", "sure", "0", "book", "book 4\n0 1\n0 2",
                  "journal", "live bases 4 / 0 1 / 0 2")
        self.talk(Desk(("even", 0, 0)), "size", "0", "rank", "0", "bases", "1", "flats", "1", "signs", "1", "idle", "-",
                  "sure", "-", "book", "book 0\n-", "journal", "live even 0 0")
        self.assertEqual(Desk(("even", 2, 2)).say(line="sure"), "0 1")

    def test_deeds(self):
        desk = Desk(("even", 2, 4))
        self.talk(desk, "turn", "done", "short", "done", "short", "done", "rank", "0", "short", "refused", "rank", "0",
                  "undo", "done", "undo", "done", "draw 4", "refused", "draw 3", "done", "rename 2 1 0", "done",
                  "rename 2 1", "refused", "rename -", "refused", "freer 0 1", "refused", "freer -", "refused",
                  "beside web 2 / 0 1 / 0 1", "done", "freer 0 1", "refused", "beside even 1 4", "refused", "twin 5",
                  "refused", "twin 4", "done", "freer 3 4 5", "refused", "size", "6",
                  "journal", "live even 2 4\nturn\ndraw 3\nrename 2 1 0\nbeside web 2 / 0 1 / 0 1\ntwin 4")
        self.assertEqual(desk.live.standing, 5)
        self.talk(Desk(("bases", 3, [(0, 1), (0, 2)])), "freer 2 1", "refused", "freer 1 2", "done", "bases", "3",
                  "freer 1 2", "refused")

    def test_back_and_forth(self):
        self.talk(Desk(("even", 2, 3)), "undo", "refused", "redo", "refused", "leave 0", "done", "redo", "refused",
                  "undo", "done", "size", "3", "redo", "done", "size", "2", "redo", "refused", "undo", "done",
                  "leave 9", "refused", "redo", "done", "undo", "done", "turn", "done", "redo", "refused")

    def test_watching(self):
        self.talk(Desk(("even", 2, 4)), "lot a", "refused", "drop a", "refused", "watch a 0 2", "done", "lot a",
                  "0 2 / 2 2", "watch b -", "done", "lot b", "- / 0 2", "watch a 1", "done", "lot a", "1 / 1 2",
                  "watch a 4", "refused", "watch a 0 1 7", "refused", "lot a", "1 / 1 2", "leave 0", "done", "lot a",
                  "0 / 1 2", "leave 0", "done", "lot a", "- / 0 2", "undo", "done", "lot a", "0 / 1 2", "drop a",
                  "done", "drop a", "refused", "lot a", "refused", "lot b", "- / 0 2", "watch abcdefgh 0 1 2", "done",
                  "lot abcdefgh", "0 1 2 / 2 0", "drop abcdefgh", "done", "journal", "live even 2 4\nleave 0",
                  "watch undo 0", "done", "lot undo", "0 / 1 2", "undo", "done", "lot undo", "refused")

    def test_changed_otherwise(self):
        desk = Desk(("even", 2, 4))
        desk.live.do(("leave", 0))
        desk.live.watch("a", (1, 2))
        self.talk(desk, "size", "3", "flats", "1 3 1", "lot a", "1 2 / 2 1", "journal", "live even 2 4\nleave 0",
                  "book", "book 3\n0 1\n0 2\n1 2", "undo", "done", "lot a", "refused")
        desk.live.redo()
        self.talk(desk, "size", "3", "redo", "refused", "turn", "done", "signs", "1 -1", "watch a 2", "done")
        desk.live.unwatch("a")
        self.talk(desk, "drop a", "refused", "undo", "done", "signs", "1 -3 2")
        desk.live.do(("short",))
        self.talk(desk, "redo", "refused", "signs", "1 -1")
        # Another live book in its place.
        desk.live = led_live("live even 1 5\nshort")
        self.talk(desk, "size", "5", "rank", "0", "undo", "done", "rank", "1", "journal", "live even 1 5")

    def test_starts(self):
        for start in STARTS:
            desk = Desk(start)
            self.assertIs(type(desk.live), LiveBook)
            self.assertEqual((desk.live.start, desk.live.standing), (tuples(start), 0))
        for thing in NO_STARTS:
            with self.assertRaises(BadStart):
                Desk(thing)
        for start, name, part in REFUSED:
            with self.assertRaises(FlatError) as caught:
                Desk(start)
            self.assertEqual(caught.exception.__class__.__name__, name)
            self.assertEqual(getattr(caught.exception, "part", None), part)


class OtherLines(unittest.TestCase):
    def unknown(self, desk, line):
        ahead = state(desk.live)
        self.assertEqual(desk.say(line), "?", repr(line))
        self.assertEqual(state(desk.live), ahead)

    def test_no_strings(self):
        for thing in NO_TEXTS + [*ODDS, ("turn",), ["turn"], ("leave", 0), b"size"]:
            self.unknown(Desk(("even", 2, 3)), thing)

    def test_other_lines(self):
        desk = Desk(("even", 2, 4))
        desk.say("watch a 0 2")
        desk.say("turn")
        for line in ("", " ", "?", "done", "refused", "help", "Size", "SIZE", "size ", " size", "size 3", "size\n",
                     "undo 1", "undo ", "redo -", "told", "deeds", "standing", "watched", "lots", "book 3",
                     "book 4\n0 1", "journal 0", "live even 2 3", "even 2 3", "turn 0", "turn\n", "turn\nturn", "Turn",
                     "leave", "leave x", "leave 01", "leave -1", "leave 0 ", "twin", "freer", "freer 0  1", "rename",
                     "beside", "beside even 3 2", "beside even 1", "watch", "watch ", "watch a", "watch a ",
                     "watch - 0", "watch a 8", "watch a -1", "watch a 1 0", "watch a 0 01", "watch a 0  1",
                     "watch a 0 1 ", "watch  a 0", "watch a  0", "watch A 0", "watch a1 0", "watch abcdefghi 0",
                     "watch  0", "watch a b 0", "watch a --", "watch a - -", "watch a 0 -", "watch a +0",
                     "watch a 0\n", "watch a 0 1 2 3 4 5 6 7 8", "watch \u00e4 0", "watch a \u0661", "drop", "drop ",
                     "drop A", "drop a ", "drop  a", "drop a b", "drop abcdefghi", "drop 1", "drop -", "drop a\n",
                     "lot", "lot ", "lot A", "lot a ", "lot  a", "lot a b", "lot abcdefghi", "lot a\n", "Lot a",
                     "DROP a", "unwatch a", "lots a", "signs 1", "flats\r", "idle\t", "watch a 0\r", "watch\ta 0"):
            self.unknown(desk, line)

    def test_changed_a_little(self):
        for line in (*BARE, "watch a 0 2", "watch a -", "drop a", "lot a", "leave 0", "turn", "rename 1 0 2"):
            for other in changed(line) + [line + "\n", "\n" + line]:
                desk = Desk(("even", 2, 3))
                if known(other):
                    self.assertNotEqual(desk.say(other), "?", other)
                else:
                    self.unknown(desk, other)


class Runs(unittest.TestCase):
    """Runs of lines, against a live book that is led by its methods."""

    def answer(self, live, line):
        """What the document tells that the desk answers to a line that has its form."""
        told, words = live.told(), line.split(" ")
        if line in ("size", "rank", "bases"):
            return str(told[line])
        if line in ("flats", "signs", "idle", "sure"):
            return row(told[line])
        if line in ("book", "journal"):
            return book_text(live.book) if line == "book" else journal_text(live)
        if words[0] == "lot":
            if words[1] not in live.watched():
                return "refused"
            lot, one, other = live.watched()[words[1]]
            return f"{row(lot)} / {one} {other}"
        return self.led(live, line, words)

    def led(self, live, line, words):
        try:
            if line in ("undo", "redo"):
                (live.undo if line == "undo" else live.redo)()
            elif words[0] == "drop":
                live.unwatch(words[1])
            elif words[0] == "watch":
                live.watch(words[1], tuple(int(word) for word in words[2:] if word != "-"))
            elif can_be_done(live.book, deed_told(line)):
                live.do(deed_told(line))
            else:
                return "refused"
        except (NothingLeft, NoWatch):
            return "refused"
        return "done"

    def line(self, live, chance):
        if chance.random() < 0.4:
            return deed_text(chance_deed(live.book, chance))
        name = chance.choice("abc")
        return chance.choice([*BARE, "undo", "redo", f"lot {name}", f"lot {name}", f"drop {name}",
                              f"watch {name} {row(chance_lot(live.book, chance))}"])

    def test_runs(self):
        for start, chance in runs(63, seed=77):
            desk, live = Desk(start), LiveBook(start)
            for _ in range(60):
                line = self.line(live, chance)
                ahead = state(desk.live)
                told = self.answer(live, line)
                self.assertEqual(desk.say(line), told, line)
                if told == "refused":
                    self.assertEqual(state(desk.live), ahead)
            self.assertEqual(state(desk.live), state(live))
            self.assertEqual(desk.say("journal"), journal_text(live))


if __name__ == "__main__":
    unittest.main()

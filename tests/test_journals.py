"""Point 103, the first part: live books as texts."""

import unittest

from flatrooms.deedtexts import deed_text, start_text
from flatrooms.errors import BadLive, BadText
from flatrooms.journals import journal_text, led_live
from flatrooms.live import LiveBook
from flatrooms.makers import even_book
from tests.livehelp import STARTS, can_be_done, chance_deed, runs, tuples
from tests.samples import ODDS
from tests.texthelp import NO_TEXTS, changed, deed_told, start_told


def led(start, *deeds):
    live = LiveBook(start)
    for deed in deeds:
        live.do(deed)
    return live


def journal_told(text):
    """The index of the first line that is wrong, None if there is none; straight from the document."""
    first, *others = text.split("\n")
    start = start_told(first[5:])
    if not first.startswith("live ") or start is None:
        return 0
    live = LiveBook(start)
    for at, line in enumerate(others, start=1):
        deed = deed_told(line)
        if deed is None or not can_be_done(live.book, deed):
            return at
        live.do(deed)
    return None


class Journals(unittest.TestCase):
    def test_by_hand(self):
        self.assertEqual(journal_text(LiveBook(("even", 2, 3))), "live even 2 3")
        live = led(("bases", 3, [(0, 1), (0, 2)]), ("leave", 0), ("twin", 1), ("rename", [2, 0, 1]), ("turn",),
                   ("beside", ("table", 2, [[1, 0]])), ("short",), ("draw", 1))
        text = ("live bases 3 / 0 1 / 0 2\nleave 0\ntwin 1\nrename 2 0 1\nturn\nbeside table 2 / 1 0\nshort\ndraw 1")
        self.assertEqual(journal_text(live=live), text)
        found = led_live(text=text)
        self.assertEqual((found.start, found.book, found.deeds()), (live.start, live.book, live.deeds()))
        self.assertEqual((found.standing, found.watched()), (7, {}))
        self.assertEqual(led_live("live even 2 3").book, even_book(2, 3))
        self.assertEqual(led_live("live even 0 0\nrename -").standing, 1)

    def test_the_present_deeds_alone(self):
        live = led(("even", 2, 4), ("leave", 0), ("turn",), ("short",))
        live.watch("a", (1,))
        live.undo()
        self.assertEqual(journal_text(live), "live even 2 4\nleave 0\nturn")
        live.undo()
        live.undo()
        self.assertEqual(journal_text(live), "live even 2 4")
        live.redo()
        self.assertEqual(journal_text(live), "live even 2 4\nleave 0")

    def test_runs(self):
        for start, chance in runs(63, seed=9):
            live = LiveBook(start)
            for _ in range(25):
                deed = chance_deed(live.book, chance)
                if can_be_done(live.book, deed):
                    live.do(deed)
                elif live.standing:
                    live.undo()
            text = journal_text(live)
            self.assertEqual(text, "\n".join(["live " + start_text(start), *map(deed_text, live.deeds())]))
            found = led_live(text)
            self.assertIs(type(found), LiveBook)
            self.assertEqual(journal_text(found), text)
            self.assertEqual((found.start, found.book, found.told()), (tuples(start), live.book, live.told()))
            self.assertEqual((found.deeds(), found.standing), (live.deeds(), live.standing))
            for _ in live.deeds():
                found.undo()
            self.assertEqual(found.book, LiveBook(start).book)


class Wrong(unittest.TestCase):
    def refused(self, text, at):
        with self.assertRaises(BadText) as caught:
            led_live(text)
        self.assertEqual(caught.exception.at, at, repr(text))

    def test_no_live_books(self):
        for thing in [*ODDS, 0, ("even", 2, 3), even_book(2, 3), "live even 2 3", LiveBook]:
            with self.assertRaises(BadLive):
                journal_text(thing)

    def test_no_strings(self):
        for thing in NO_TEXTS:
            self.refused(thing, 0)

    def test_the_first_line(self):
        for line in ("", "live", "live ", "even 2 3", "Live even 2 3", "LIVE even 2 3", "live  even 2 3",
                     " live even 2 3", "live even 2 3 ", "live even 4 3", "live even 2", "live bases 3", "live turn",
                     "live even 02 3", "live -", "book 3", "live even 2 3\r", "live live even 2 3", "\nlive even 2 3"):
            for rest in ("", "\nturn", "\nno deed", "\n"):
                self.refused(line + rest, 0)

    def test_the_first_of_several(self):
        # No deed, deeds that cannot be done, and both in either sequence.
        self.refused("live even 2 3\nturn\nundo", 2)
        self.refused("live even 2 3\nturn\nleave 3", 2)
        self.refused("live even 2 3\nturn\nleave 3\nno deed", 2)
        self.refused("live even 2 3\nturn\nno deed\nleave 3", 2)
        self.refused("live even 2 3\nleave 0\nleave 0\nleave 0\nleave 0\nTurn", 4)
        self.refused("live even 2 3\nleave 3\nturn\nleave 3", 1)
        self.refused("live even 0 0\nshort", 1)
        self.refused("live even 3 8\nturn\ntwin 0", 2)
        self.refused("live even 3 8\nbeside even 0 0\nbeside even 0 1", 2)
        self.refused("live even 2 3\nrename 0 1", 1)
        self.refused("live even 2 3\nfreer 0 1", 1)
        self.refused("live even 2 3\nfreer 0 1 2\nturn", 1)
        self.refused("live even 2 3\nwatch a 0", 1)
        self.refused("live even 2 3\nredo", 1)

    def test_newlines(self):
        self.refused("live even 2 3\n", 1)
        self.refused("live even 2 3\nturn\n", 2)
        self.refused("live even 2 3\n\nturn", 1)

    def test_changed_a_little(self):
        fine = 0
        for text in ("live even 2 3\nleave 0\ntwin 1\nturn",
                     "live bases 3 / 0 1 / 0 2\nfreer 1 2\nrename 2 0 1\ndraw 1",
                     "live table 5 / 1 0 / -3 2\nbeside web 2 / 0 1\nshort\ntwin 2", "live even 0 0\nrename -\nturn"):
            lines = text.split("\n")
            for at, line in enumerate(lines):
                for other in changed(line) + [line + "\n", "\n" + line]:
                    wrong = "\n".join([*lines[:at], other, *lines[at + 1:]])
                    told = journal_told(wrong)
                    if told is None:
                        self.assertEqual(journal_text(led_live(wrong)), wrong)
                        fine += 1
                    else:
                        self.refused(wrong, told)
        self.assertGreater(fine, 5)


if __name__ == "__main__":
    unittest.main()

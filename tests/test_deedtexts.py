"""Point 102, the second part: starts and deeds as texts."""

import unittest

from flatrooms.deedtexts import deed_of_text, deed_text, start_of_text, start_text
from flatrooms.errors import BadDeed, BadStart, BadText, FlatError
from tests.livehelp import DEEDS, NO_DEEDS, NO_STARTS, REFUSED, STARTS, tuples
from tests.texthelp import NO_TEXTS, changed, deed_told, start_told

STARTS_BY_HAND = [(("even", 2, 4), "even 2 4"), (("bases", 3, [(0, 1), (0, 2)]), "bases 3 / 0 1 / 0 2"),
                  (("table", 5, [[1, 0], [-3, 2]]), "table 5 / 1 0 / -3 2"), (("web", 2, [(0, 1)]), "web 2 / 0 1"),
                  (("bases", 2, [()]), "bases 2 / -"), (("even", 0, 0), "even 0 0"), (("table", 2, []), "table 2"),
                  (("web", 1, ()), "web 1"), (("table", 3, [(), ()]), "table 3 / - / -"),
                  (("bases", 3, ((1, 2), (0, 1), (0, 1))), "bases 3 / 1 2 / 0 1 / 0 1")]

DEEDS_BY_HAND = [(("turn",), "turn"), (("short",), "short"), (("leave", 3), "leave 3"), (("draw", 0), "draw 0"),
                 (("twin", 7), "twin 7"), (("freer", [0, 1, 2]), "freer 0 1 2"), (("rename", (1, 0)), "rename 1 0"),
                 (("freer", ()), "freer -"), (("rename", []), "rename -"), (("freer", (2, 2, 0)), "freer 2 2 0"),
                 (("beside", ("even", 1, 2)), "beside even 1 2"), (("rename", [10, 3]), "rename 10 3"),
                 (("beside", ("table", 5, [[1, 0], [-3, 2]])), "beside table 5 / 1 0 / -3 2"),
                 (("leave", 999999999), "leave 999999999")]


class Starts(unittest.TestCase):
    def refused(self, text):
        with self.assertRaises(BadText) as caught:
            start_of_text(text)
        self.assertEqual(caught.exception.at, 0, repr(text))

    def test_by_hand(self):
        for start, text in STARTS_BY_HAND:
            self.assertEqual(start_text(start), text)
            self.assertEqual(start_of_text(text), tuples(start))
        self.assertEqual(start_text(start=("web", 2, [])), "web 2")
        self.assertEqual(start_of_text(text="web 2"), ("web", 2, ()))

    def test_led_back(self):
        for start in STARTS:
            text = start_text(start)
            found = start_of_text(text)
            self.assertEqual(found, tuples(start))
            self.assertEqual(start_text(found), text)
            self.assertEqual(start_text(tuples(start)), text)

    def test_no_starts(self):
        for thing in NO_STARTS:
            with self.assertRaises(BadStart):
                start_text(thing)
        for start, name, part in REFUSED:
            with self.assertRaises(FlatError) as caught:
                start_text(start)
            self.assertEqual(caught.exception.__class__.__name__, name)
            self.assertEqual(getattr(caught.exception, "part", None), part)

    def test_no_texts(self):
        for text in NO_TEXTS + ["", "even", "even ", "even 2", "even 2 ", "even 2 4 5", "even 2 4 / 0", "even 2 / 4",
                                "even -", "even 2 -", "even - 4", "Even 2 4", "EVEN 2 4", "even 02 4", "even +2 4",
                                "even 2 -4", "even 2  4", " even 2 4", "even 2 4 ", "even 2 4\n", "\neven 2 4",
                                "even 2 4\nturn", "bases", "bases 3", "bases - / 0", "bases / 0", "bases 3 /",
                                "bases 3 / ", "bases 3 / / 0", "bases 3/ 0", "bases 3 /0", "bases 3  / 0",
                                "bases 3 /  0", "bases 3 / 0 /", "bases 3 4 / 0", "bases 3 / 0 1 / ", "bases 3 // 0",
                                "bases 3 | 0", "table", "table -", "table 5 /", "web", "web -", "web 2 / 0 1 /",
                                "turn", "live even 2 4", "beside even 2 4", "even 2.0 4", "even \u0662 4",
                                "web 2 / - 0", "web 2 / 0 -", "table 5 / -0", "table 5 / 1 --1"]:
            self.refused(text)

    def test_forms_that_no_start_has(self):
        for text in ("even 5 4", "even 2 9", "even -1 4", "bases 9 / -", "bases 3 / 0 / 0 1", "bases 4 / 0 1 / 2 3",
                     "bases 3 / 1 0", "bases 3 / 0 3", "bases -1 / -", "bases 2 / 0 0", "table 4 / 1", "table 17 / 1",
                     "table -2", "table 5 / 1 / 1 2", "table 5 / - / 1", "web 0", "web 9", "web 2 / 0", "web 2 / -",
                     "web 2 / 0 2", "web 2 / 0 1 2", "web 2 / 0 -1", "table 2" + " / 1" * 9, "web 2" + " / 0 1" * 9):
            self.assertIsNone(start_told(text))
            self.refused(text)

    def test_changed_a_little(self):
        fine = 0
        for start in STARTS + [row[0] for row in STARTS_BY_HAND]:
            for text in changed(start_text(start)) + [start_text(start) + "\n", "\n" + start_text(start)]:
                told = start_told(text)
                if told is None:
                    self.refused(text)
                else:
                    self.assertEqual(start_of_text(text), told)
                    self.assertEqual(start_text(told), text)
                    fine += 1
        self.assertGreater(fine, 20)


class Deeds(unittest.TestCase):
    def refused(self, text):
        with self.assertRaises(BadText) as caught:
            deed_of_text(text)
        self.assertEqual(caught.exception.at, 0, repr(text))

    def test_by_hand(self):
        for deed, text in DEEDS_BY_HAND:
            self.assertEqual(deed_text(deed), text)
            self.assertEqual(deed_of_text(text), tuples(deed))
        self.assertEqual(deed_text(deed=("turn",)), "turn")
        self.assertEqual(deed_of_text(text="leave 8"), ("leave", 8))

    def test_led_back(self):
        for deed in DEEDS + [("beside", start) for start in STARTS]:
            text = deed_text(deed)
            self.assertEqual(deed_of_text(text), tuples(deed))
            self.assertEqual(deed_text(tuples(deed)), text)

    def test_no_deeds(self):
        for thing in NO_DEEDS + [("beside", start) for start in NO_STARTS] + [("beside", row[0]) for row in REFUSED]:
            with self.assertRaises(BadDeed):
                deed_text(thing)

    def test_no_texts(self):
        for text in NO_TEXTS + ["", " ", "turn ", " turn", "Turn", "TURN", "turn 0", "turn -", "turn\n", "short 1",
                                "leave", "leave ", "leave -", "leave -1", "leave 1 2", "leave 01", "leave +1",
                                "leave -0", "leave  1", "leave 1 ", "leave 1\n", "LEAVE 1", "leave 1.0",
                                "leave \u0661", "draw", "draw x", "twin", "twin / 1", "freer", "freer ", "freer 0 -1",
                                "freer - 0", "freer 0  1", "freer 00", "freer --", "freer (0, 1)", "freer 0,1",
                                "rename", "rename -1", "rename 0 1 ", "rename 1\n0", "beside", "beside ",
                                "beside even", "beside even 3 2", "beside even 1 9", "beside turn",
                                "beside beside even 1 2", "beside  even 1 2", "beside -", "beside 1", "even 1 2",
                                "undo", "redo", "watch a 0", "live even 1 2", "turn\nturn", "beside table 4 / 1"]:
            self.refused(text)

    def test_changed_a_little(self):
        fine = 0
        for deed in DEEDS + [row[0] for row in DEEDS_BY_HAND]:
            for text in changed(deed_text(deed)) + [deed_text(deed) + "\n", "\n" + deed_text(deed)]:
                told = deed_told(text)
                if told is None:
                    self.refused(text)
                else:
                    self.assertEqual(deed_of_text(text), told)
                    self.assertEqual(deed_text(told), text)
                    fine += 1
        self.assertGreater(fine, 20)


if __name__ == "__main__":
    unittest.main()

"""Points 100 and 101: live books, their deeds, and what is watched meanwhile."""

import unittest
from copy import deepcopy

from flatrooms.books import Book
from flatrooms.errors import (BadBook, BadDeed, BadLot, BadName, BadNumber, BadStart, BadThing, FlatError, NothingLeft,
                              NoWatch, TooMany)
from flatrooms.live import LiveBook, is_deed, started
from flatrooms.makers import even_book, table_book, web_book
from flatrooms.ranks import idle, sure
from flatrooms.sides import cut_short, drawn_in, left_out, made_freer, side_by_side, turned
from flatrooms.alike import renamed
from flatrooms.signs import sign_row
from tests.flathelp import order_books, plain_flats, sequence
from tests.livehelp import (DEEDS, NO_DEEDS, NO_STARTS, REFUSED, STARTS, can_be_done, chance_deed, chance_lot,
                            plain_done, plain_led, plain_twin, runs, tuples)
from tests.samples import FANO, ODDS, book_of, freer_books, parts_of, plain_rank, relaxable, small_books
from tests.weighthelp import GREAT

NO_NAMES = ODDS[:3] + ODDS[5:] + ["", "abcdefghi", "A", "aB", "a1", "a ", " a", "a\n", "a-", "a_b", "\u00e4", "\u0430",
                                  0, ("a",)]


def live_of(book):
    """A live book whose present book this is."""
    return LiveBook(("bases", book.size, book.bases))


def state(live):
    return live.start, live.book, live.standing, live.deeds(), live.told(), live.watched()


def plain_told(book):
    ranks = sequence(book)
    return {"bases": len(book.bases), "flats": tuple(list(ranks.values()).count(k) for k in range(book.rank + 1)),
            "idle": tuple(x for x in range(book.size) if plain_rank(book, (x,)) == 0), "rank": book.rank,
            "signs": sign_row(book), "size": book.size,
            "sure": tuple(x for x in range(book.size) if all(x in base for base in book.bases))}


def plain_watched(book, lots):
    return {name: (lot, plain_rank(book, lot), plain_rank(book, set(range(book.size)) - set(lot)))
            for name, lot in sorted(lots.items())}


class Starts(unittest.TestCase):
    def test_books(self):
        self.assertEqual(started(("even", 2, 3)), even_book(2, 3))
        self.assertEqual(started(start=("bases", 3, [(0, 2), (0, 1)])), book_of(3, (0, 1), (0, 2)))
        self.assertEqual(started(("table", 2, FANO)), table_book(2, FANO))
        self.assertEqual(started(("web", 3, [(0, 1), (1, 2)])), web_book(3, [(0, 1), (1, 2)]))
        makers = {"bases": Book, "even": even_book, "table": table_book, "web": web_book}
        for start in STARTS:
            self.assertEqual(started(start), makers[start[0]](start[1], start[2]))
            self.assertEqual(started(tuples(start)), started(start))

    def test_no_starts(self):
        for thing in NO_STARTS:
            for call in (started, LiveBook):
                with self.assertRaises(BadStart):
                    call(thing)

    def test_the_errors_of_the_makers(self):
        for start, name, part in REFUSED:
            for call in (started, LiveBook):
                with self.assertRaises(FlatError) as caught:
                    call(start)
                self.assertEqual(caught.exception.__class__.__name__, name, start)
                self.assertEqual(getattr(caught.exception, "part", None), part, start)
        for thing in ODDS:
            with self.assertRaises(BadBook):
                started(("bases", thing, []))
            with self.assertRaises(BadNumber):
                started(("even", 0, thing))


class IsDeed(unittest.TestCase):
    def test_deeds(self):
        for deed in DEEDS:
            self.assertIs(is_deed(deed), True, deed)
        for start in STARTS:
            self.assertIs(is_deed(thing=("beside", start)), True)

    def test_no_deeds(self):
        for thing in NO_DEEDS:
            self.assertIs(is_deed(thing), False, thing)
        for start in NO_STARTS + [row[0] for row in REFUSED]:
            self.assertIs(is_deed(("beside", start)), False, start)
        for thing in ODDS:
            for word in ("leave", "draw", "twin", "beside", "undo", "watch", thing):
                self.assertIs(is_deed((word, thing)), False)
            if thing != ():
                self.assertIs(is_deed(("freer", [0, thing])), False)


class Doing(unittest.TestCase):
    def done(self, book, deed):
        live = live_of(book)
        self.assertIsNone(live.do(deed))
        self.assertEqual((live.standing, live.deeds()), (1, [tuples(deed)]))
        return live.book

    def test_each_deed_by_hand(self):
        book = even_book(2, 3)
        self.assertEqual(self.done(book, ("turn",)), even_book(1, 3))
        self.assertEqual(self.done(book, ("short",)), even_book(1, 3))
        self.assertEqual(self.done(book, ("leave", 0)), even_book(2, 2))
        self.assertEqual(self.done(book, ("draw", 2)), even_book(1, 2))
        self.assertEqual(self.done(book, ("twin", 0)), book_of(4, (0, 1), (0, 2), (1, 2), (1, 3), (2, 3)))
        self.assertEqual(self.done(book, ("beside", ("even", 1, 1))), book_of(4, (0, 1, 3), (0, 2, 3), (1, 2, 3)))
        two = book_of(3, (0, 1), (0, 2))
        self.assertEqual(self.done(two, ("freer", [1, 2])), book)
        self.assertEqual(self.done(two, ("freer", (1, 2))), book)
        self.assertEqual(self.done(two, ("rename", [2, 0, 1])), book_of(3, (0, 2), (1, 2)))
        self.assertEqual(self.done(two, ("twin", 1)), book_of(4, (0, 1), (0, 2), (0, 3)))
        self.assertEqual(self.done(two, ("twin", 0)), book_of(4, (0, 1), (0, 2), (1, 3), (2, 3)))
        self.assertEqual(self.done(even_book(0, 2), ("twin", 1)), even_book(0, 3))

    def test_each_deed_at_many_books(self):
        for book in order_books()[::3] + freer_books():
            self.assertEqual(self.done(book, ("turn",)), turned(book))
            if book.rank > 0:
                self.assertEqual(self.done(book, ("short",)), cut_short(book))
            for thing in range(book.size):
                self.assertEqual(self.done(book, ("leave", thing)), left_out(book, thing))
                self.assertEqual(self.done(book, ("draw", thing)), drawn_in(book, thing))
                if book.size < 8:
                    self.assertEqual(self.done(book, ("twin", thing)), plain_twin(book, thing))
            for lot in relaxable(book):
                self.assertEqual(self.done(book, ("freer", list(lot))), made_freer(book, lot))
            order = [*range(1, book.size), 0][:book.size]
            self.assertEqual(self.done(book, ("rename", order)), renamed(book, order))
            for start in STARTS:
                if book.size + started(start).size <= 8:
                    self.assertEqual(self.done(book, ("beside", start)), side_by_side(book, started(start)))

    def test_a_twin_is_bound_to_its_thing(self):
        for book in order_books()[::5]:
            for thing in range(book.size if book.size < 8 else 0):
                found = self.done(book, ("twin", thing))
                self.assertEqual(found.rank, book.rank)
                for lot in parts_of(range(book.size)):
                    swapped = tuple(book.size if x == thing else x for x in lot)
                    self.assertEqual(plain_rank(found, lot), plain_rank(book, lot))
                    self.assertEqual(plain_rank(found, swapped), plain_rank(book, lot))
                self.assertEqual(plain_rank(found, (thing, book.size)), plain_rank(book, (thing,)))


class Refused(unittest.TestCase):
    def refused(self, live, deed, error, **told):
        ahead = state(live)
        with self.assertRaises(error) as caught:
            live.do(deed)
        self.assertIs(caught.exception.__class__, error)
        self.assertEqual({key: getattr(caught.exception, key) for key in told}, told)
        self.assertEqual(state(live), ahead)

    def test_no_deeds(self):
        live = LiveBook(("even", 2, 4))
        live.watch("a", (1, 3))
        live.do(("leave", 0))
        for thing in NO_DEEDS + [("beside", start) for start in NO_STARTS] + [("beside", row[0]) for row in REFUSED]:
            self.refused(live, thing, BadDeed)

    def test_deeds_that_cannot_be_done(self):
        live = LiveBook(("even", 2, 4))
        live.watch("a", (1, 3))
        live.do(("turn",))
        for word in ("leave", "draw", "twin"):
            self.refused(live, (word, 4), BadThing)
            self.refused(live, (word, GREAT), BadThing)
        self.refused(live, ("freer", [1, 0]), BadLot)
        self.refused(live, ("freer", (0, 4)), BadLot)
        self.refused(live, ("freer", (2, 2)), BadLot)
        self.refused(live, ("freer", (0, 1)), BadNumber, part="lot")
        self.refused(live, ("freer", ()), BadNumber, part="lot")
        self.refused(live, ("freer", [0, 1, 2]), BadNumber, part="lot")
        for order in ((), [0, 1, 2], [0, 1, 2, 4], [0, 1, 2, 2], [0, 1, 2, 3, 4]):
            self.refused(live, ("rename", order), BadLot)
        self.refused(live, ("beside", ("even", 2, 5)), TooMany, most=8)
        self.refused(LiveBook(("even", 0, 4)), ("short",), BadNumber, part="rank")
        self.refused(LiveBook(("even", 0, 0)), ("leave", 0), BadThing)
        self.refused(LiveBook(("even", 0, 0)), ("twin", 0), BadThing)

    def test_a_twin_of_no_thing_ahead_of_too_many(self):
        live = LiveBook(("even", 3, 8))
        self.refused(live, ("twin", 8), BadThing)
        self.refused(live, ("twin", 7), TooMany, most=8)
        self.refused(live, ("beside", ("even", 0, 1)), TooMany, most=8)
        self.assertIsNone(live.do(("beside", ("even", 0, 0))))

    def test_what_is_refused_keeps_what_was_taken_back(self):
        live = LiveBook(("even", 2, 3))
        live.do(("leave", 0))
        live.undo()
        self.refused(live, ("leave", 3), BadThing)
        self.refused(live, "leave 3", BadDeed)
        live.redo()
        self.assertEqual((live.book, live.deeds()), (even_book(2, 2), [("leave", 0)]))


class Attributes(unittest.TestCase):
    def test_at_the_start(self):
        for start in STARTS:
            live = LiveBook(start=start)
            self.assertEqual((live.start, live.book, live.standing), (tuples(start), started(start), 0))
            self.assertEqual((live.deeds(), live.watched()), ([], {}))
            self.assertIsInstance(live.start[-1], (tuple, int))

    def test_later_changes_have_no_effect(self):
        rows = [[1, 0], [0, 1]]
        start = ("table", 3, rows)
        live = LiveBook(start)
        order, lot, inner = [1, 0], [0, 2], [[0, 0]]
        live.do(("rename", order))
        live.do(("beside", ("table", 2, inner)))
        live.do(("leave", 2))
        live.do(("twin", 0))
        live.do(("freer", lot))
        kept = deepcopy((live.start, live.deeds(), live.book.bases))
        rows[0][0] = 0
        rows.append([1, 1])
        order.reverse()
        lot.clear()
        inner[0].append(7)
        live.deeds().clear()
        live.told().clear()
        live.watched()["a"] = ()
        self.assertEqual((live.start, live.deeds(), live.book.bases), kept)
        self.assertEqual(kept[0], ("table", 3, ((1, 0), (0, 1))))
        self.assertEqual(kept[1][:2], [("rename", (1, 0)), ("beside", ("table", 2, ((0, 0),)))])
        self.assertEqual(live.watched(), {})
        live.undo()
        live.redo()
        self.assertEqual((live.start, live.deeds(), live.book.bases), kept)
        order.clear()
        for _ in live.deeds():
            live.undo()
        live.redo()
        self.assertEqual(live.deeds(), [("rename", (1, 0))])

    def test_nothing_handed_in_is_changed(self):
        start = ("table", 3, [[1, 0], [0, 1]])
        deeds = [("rename", [1, 0]), ("beside", ("bases", 1, [(0,)])), ("freer", [0, 1, 2])]
        kept = deepcopy((start, deeds))
        live = LiveBook(start)
        for deed in deeds[:2]:
            live.do(deed)
        with self.assertRaises(BadNumber):
            live.do(deeds[2])
        self.assertEqual((start, deeds), kept)

    def test_told(self):
        for start in STARTS:
            found = LiveBook(start).told()
            self.assertEqual(list(found), ["bases", "flats", "idle", "rank", "signs", "size", "sure"])
            self.assertEqual(found, plain_told(started(start)))
            self.assertEqual({type(found[word]) for word in ("flats", "idle", "signs", "sure")}, {tuple})
        self.assertEqual(LiveBook(("bases", 3, [(0, 1), (0, 1)])).told(),
                         {"bases": 1, "flats": (1, 2, 1), "idle": (2,), "rank": 2, "signs": (0, 0, 0), "size": 3,
                          "sure": (0, 1)})
        self.assertEqual(LiveBook(("even", 2, 4)).told(),
                         {"bases": 6, "flats": (1, 4, 1), "idle": (), "rank": 2, "signs": (1, -4, 3), "size": 4,
                          "sure": ()})
        self.assertEqual(LiveBook(("even", 0, 0)).told(),
                         {"bases": 1, "flats": (1,), "idle": (), "rank": 0, "signs": (1,), "size": 0, "sure": ()})
        self.assertEqual(len(plain_flats(even_book(2, 4))), 6)


class Back(unittest.TestCase):
    def test_back_and_forth(self):
        live = LiveBook(("even", 2, 3))
        for call in (live.undo, live.redo):
            with self.assertRaises(NothingLeft):
                call()
        live.do(("leave", 0))
        live.do(("turn",))
        with self.assertRaises(NothingLeft):
            live.redo()
        self.assertIsNone(live.undo())
        self.assertEqual((live.book, live.standing, live.deeds()), (even_book(2, 2), 1, [("leave", 0)]))
        self.assertIsNone(live.undo())
        self.assertEqual((live.book, live.standing, live.deeds()), (even_book(2, 3), 0, []))
        with self.assertRaises(NothingLeft):
            live.undo()
        # The one last taken back comes first.
        self.assertIsNone(live.redo())
        self.assertEqual((live.book, live.standing, live.deeds()), (even_book(2, 2), 1, [("leave", 0)]))
        live.redo()
        self.assertEqual((live.book, live.standing, live.deeds()), (even_book(0, 2), 2, [("leave", 0), ("turn",)]))
        with self.assertRaises(NothingLeft):
            live.redo()

    def test_a_new_deed_makes_an_end_of_those_taken_back(self):
        live = LiveBook(("even", 2, 3))
        live.do(("leave", 0))
        live.do(("turn",))
        live.undo()
        live.undo()
        live.do(("leave", 0))
        with self.assertRaises(NothingLeft):
            live.redo()
        self.assertEqual((live.book, live.standing, live.deeds()), (even_book(2, 2), 1, [("leave", 0)]))

    def test_watching_between_keeps_what_was_taken_back(self):
        live = LiveBook(("even", 2, 4))
        live.watch("a", (0, 1))
        live.do(("leave", 0))
        live.watch("a", (2,))
        live.watch("b", (0,))
        live.undo()
        # What is watched is what it was just ahead of the deed.
        self.assertEqual(live.watched(), {"a": ((0, 1), 2, 2)})
        live.unwatch("a")
        live.watch("c", (0, 3))
        live.redo()
        self.assertEqual(live.watched(), {"c": ((2,), 1, 2)})
        live.undo()
        self.assertEqual(live.watched(), {"c": ((0, 3), 2, 2)})
        self.assertEqual(live.standing, 0)

    def test_what_is_watched_ahead_of_an_earlier_deed(self):
        live = LiveBook(("even", 2, 4))
        live.do(("turn",))
        live.watch("a", (3,))
        live.do(("leave", 0))
        live.watch("b", ())
        live.do(("draw", 2))
        live.undo()
        self.assertEqual(live.watched(), {"a": ((2,), 1, 2), "b": ((), 0, 2)})
        live.undo()
        self.assertEqual(live.watched(), {"a": ((3,), 1, 2)})
        live.undo()
        self.assertEqual(live.watched(), {})
        for _ in range(3):
            live.redo()
        self.assertEqual((live.watched(), live.standing), ({}, 3))


class Runs(unittest.TestCase):
    """Runs of deeds, back and forth, against a model that keeps everything."""

    def step(self, live, model, chance):
        move = chance.random()
        if move < 0.45:
            self.deed(live, model, chance_deed(live.book, chance))
        elif move < 0.6:
            self.undo(live, model)
        elif move < 0.75:
            self.redo(live, model)
        elif move < 0.93:
            name, lot = chance.choice("abcd"), chance_lot(live.book, chance)
            live.watch(name, lot)
            model["lots"] = {**model["lots"], name: lot}
        else:
            self.unwatch(live, model, chance.choice("abcd"))

    def deed(self, live, model, deed):
        if not can_be_done(model["book"], deed):
            ahead = state(live)
            with self.assertRaises(FlatError):
                live.do(deed)
            self.assertEqual(state(live), ahead)
            return
        live.do(deed)
        self.led(model, deed)
        model["back"] = []

    def led(self, model, deed):
        model["done"].append((deed, model["book"], model["lots"]))
        model["book"] = plain_done(model["book"], deed)
        model["lots"] = {name: plain_led(lot, deed) for name, lot in model["lots"].items()}

    def undo(self, live, model):
        if not model["done"]:
            with self.assertRaises(NothingLeft):
                live.undo()
            return
        live.undo()
        deed, model["book"], model["lots"] = model["done"].pop()
        model["back"].append(deed)

    def redo(self, live, model):
        if not model["back"]:
            with self.assertRaises(NothingLeft):
                live.redo()
            return
        live.redo()
        self.led(model, model["back"].pop())

    def unwatch(self, live, model, name):
        if name in model["lots"]:
            live.unwatch(name)
            model["lots"] = {other: lot for other, lot in model["lots"].items() if other != name}
            return
        with self.assertRaises(NoWatch) as caught:
            live.unwatch(name)
        self.assertEqual(caught.exception.name, name)

    def as_if_afresh(self, live):
        fresh = LiveBook(live.start)
        for deed in live.deeds():
            fresh.do(deed)
        self.assertEqual(fresh.book, live.book)
        self.assertEqual(fresh.told(), live.told())
        self.assertEqual(live.told(), plain_told(live.book))

    def test_runs(self):
        for start, chance in runs(126):
            live = LiveBook(start)
            model = {"book": started(start), "lots": {}, "done": [], "back": []}
            for count in range(40):
                self.step(live, model, chance)
                self.assertEqual(live.book, model["book"])
                self.assertEqual(live.start, tuples(start))
                self.assertEqual(live.deeds(), [tuples(row[0]) for row in model["done"]])
                self.assertEqual(live.standing, len(model["done"]))
                self.assertEqual(live.watched(), plain_watched(model["book"], model["lots"]))
                if count % 13 == 0:
                    self.as_if_afresh(live)
            self.as_if_afresh(live)
            while live.standing:
                self.undo(live, model)
                self.assertEqual(live.book, model["book"])
            self.assertEqual(live.book, started(start))
            for count in range(3):
                self.redo(live, model)
                self.as_if_afresh(live)


class SignsOfDeeds(unittest.TestCase):
    def test_leave_draw_and_twin(self):
        for book in order_books()[::2]:
            row = LiveBook(("bases", book.size, list(book.bases))).told()["signs"]
            for thing in range(book.size):
                if book.size < 8:
                    live = live_of(book)
                    live.do(("twin", thing))
                    self.assertEqual(live.told()["signs"], row)
                if thing in idle(book) or thing in sure(book):
                    continue
                left, drawn = live_of(book), live_of(book)
                left.do(("leave", thing))
                drawn.do(("draw", thing))
                more = (0, *drawn.told()["signs"])
                self.assertEqual(tuple(a - b for a, b in zip(left.told()["signs"], more, strict=True)), row)


class Watching(unittest.TestCase):
    def test_names(self):
        live = LiveBook(("even", 2, 3))
        for name in ("a", "z", "abcdefgh", "zzzzzzzz", "turn"):
            self.assertIsNone(live.watch(name, (0, 2)))
            self.assertIn(name, live.watched())
            self.assertIsNone(live.unwatch(name))
        self.assertEqual(live.watched(), {})
        for name in NO_NAMES:
            for lot in ((0,), None):
                with self.assertRaises(BadName):
                    live.watch(name, lot)
        self.assertEqual(live.watched(), {})

    def test_lots(self):
        live = LiveBook(("even", 2, 3))
        live.watch("a", (1,))
        for lot in ODDS + [[0], [], (3,), (1, 0), (0, 0), (-1,), (0, 1, 2, 3), 0, (GREAT,), (0.0,)]:
            with self.assertRaises(BadLot):
                live.watch("a", lot)
            with self.assertRaises(BadLot):
                live.watch("b", lot)
        self.assertEqual(live.watched(), {"a": ((1,), 1, 2)})
        live.watch(lot=(), name="b")
        live.watch("a", (0, 1, 2))
        self.assertEqual(list(live.watched().items()), [("a", ((0, 1, 2), 2, 0)), ("b", ((), 0, 2))])
        self.assertEqual((live.standing, live.deeds()), (0, []))

    def test_the_present_book(self):
        live = LiveBook(("even", 2, 3))
        live.do(("leave", 0))
        with self.assertRaises(BadLot):
            live.watch("a", (2,))
        live.do(("twin", 1))
        live.watch("a", (2,))
        self.assertEqual(live.watched(), {"a": ((2,), 1, 2)})

    def test_ascending_and_new(self):
        live = LiveBook(("even", 2, 3))
        for name in ("b", "ab", "z", "a", "ba", "aa"):
            live.watch(name, (0,))
        self.assertEqual(list(live.watched()), ["a", "aa", "ab", "b", "ba", "z"])
        live.watched().clear()
        self.assertEqual(len(live.watched()), 6)
        self.assertEqual({type(row) for row in live.watched().values()}, {tuple})

    def test_what_is_not_watched(self):
        live = LiveBook(("even", 2, 3))
        live.watch("a", (0,))
        live.watch("b", (1,))
        for name in [*NO_NAMES, "c", "ab", [], {}, ["a"], (["a"],)]:
            with self.assertRaises(NoWatch) as caught:
                live.unwatch(name)
            self.assertIs(caught.exception.name, name)
        live.unwatch(name="a")
        with self.assertRaises(NoWatch):
            live.unwatch("a")
        self.assertEqual(live.watched(), {"b": ((1,), 1, 2)})


class LedAlong(unittest.TestCase):
    def led(self, book, lot, deed):
        """The triples of a watched lot ahead of a deed and behind it; back again it is the first one."""
        live = live_of(book)
        live.watch("a", lot)
        ahead = live.watched()["a"]
        live.do(deed)
        behind = live.watched()["a"]
        live.undo()
        self.assertEqual(live.watched(), {"a": ahead})
        live.redo()
        self.assertEqual(live.watched(), {"a": behind})
        self.assertEqual(behind, plain_watched(live.book, {"a": plain_led(lot, deed)})["a"])
        return ahead, behind

    def test_by_hand(self):
        book = even_book(2, 4)
        self.assertEqual(self.led(book, (0, 2, 3), ("leave", 2))[1], ((0, 2), 2, 1))
        self.assertEqual(self.led(book, (0, 3), ("draw", 1))[1], ((0, 2), 1, 1))
        self.assertEqual(self.led(book, (0, 3), ("rename", [3, 0, 1, 2]))[1], ((2, 3), 2, 2))
        self.assertEqual(self.led(book, (0,), ("turn",))[1], ((0,), 1, 2))
        self.assertEqual(self.led(book, (0, 1), ("short",))[1], ((0, 1), 1, 1))
        self.assertEqual(self.led(book, (0, 1, 2, 3), ("twin", 0))[1], ((0, 1, 2, 3), 2, 1))
        self.assertEqual(self.led(book, (1, 2), ("beside", ("even", 1, 1)))[1], ((1, 2), 2, 3))

    def test_heart(self):
        for book in order_books()[::4] + freer_books():
            n, r = book.size, book.rank
            lots = parts_of(range(n))
            for lot in lots[::1 if n < 5 else n * n]:
                (_, a, b), behind = self.led(book, lot, ("turn",))
                self.assertEqual(behind, (lot, len(lot) - r + b, n - len(lot) - r + a))
                if r > 0:
                    self.assertEqual(self.led(book, lot, ("short",))[1], (lot, min(a, r - 1), min(b, r - 1)))
                order = [*range(1, n), 0][:n]
                moved = tuple(sorted(order[x] for x in lot))
                self.assertEqual(self.led(book, lot, ("rename", order))[1], (moved, a, b))
                for thing in range(n):
                    self.at_a_thing(book, lot, thing, a, b)
                if n < 7:
                    self.assertEqual(self.led(book, lot, ("beside", ("web", 2, [(0, 1), (0, 1)])))[1][:2], (lot, a))

    def at_a_thing(self, book, lot, thing, a, b):
        for word in ("leave", "draw"):
            led, rank, other = self.led(book, lot, (word, thing))[1]
            self.assertEqual(led, tuple(x - 1 if x > thing else x for x in lot if x != thing))
            self.assertIn(a - rank, (0, 1))
            self.assertIn(b - other, (0, 1))
        if book.size < 8:
            self.assertEqual(self.led(book, lot, ("twin", thing))[1][:2], (lot, a))

    def test_freer(self):
        for book in freer_books() + small_books()[::3] + [even_book(3, 5), table_book(2, FANO)]:
            for own in relaxable(book):
                for lot in {*parts_of(range(book.size))[::5], own}:
                    (_, a, _), (led, rank, _) = self.led(book, lot, ("freer", list(own)))
                    self.assertEqual((led, rank), (lot, book.rank if lot == own else a))


if __name__ == "__main__":
    unittest.main()

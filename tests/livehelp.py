"""Starts, deeds and live books to test with, and what they do straight from the definitions."""

from random import Random

from flatrooms.alike import renamed
from flatrooms.books import Book
from flatrooms.live import started
from flatrooms.sides import cut_short, drawn_in, left_out, made_freer, side_by_side, turned
from tests.samples import ODDS, relaxable
from tests.weighthelp import GREAT

STARTS = [("even", 2, 3), ("even", 0, 0), ("even", 0, 2), ("even", 1, 1), ("even", 4, 7), ("even", 3, 8),
          ("bases", 3, [(0, 1), (0, 2)]), ("bases", 0, [()]), ("bases", 3, ((0,), (2,), (0,))), ("bases", 2, [()]),
          ("bases", 4, [(2, 3), (0, 1), (0, 2), (1, 2), (1, 3), (0, 3)]),
          ("table", 5, [[1, 0], [-3, 2]]), ("table", 2, []), ("table", 13, ()), ("table", 3, [[], []]),
          ("table", 2, [[1, 0, 0], (0, 1, 0), [0, 0, 1], [1, 1, 0], [1, 0, 1], [0, 1, 1], (1, 1, 1)]),
          ("table", 7, [[123456789, 0], [0, -987654321], [0, 0], [1, 1]]),
          ("web", 2, [(0, 1)]), ("web", 1, []), ("web", 4, ((0, 1), (1, 2), (0, 2), (2, 3), (3, 3), (0, 1))),
          ("web", 8, [(7, 0)])]

NO_STARTS = ODDS + [0, (), ("even",), ("even", 2), ("even", 2, 3, 4), ["even", 2, 3], ("Even", 2, 3), ("evens", 2, 3),
                    ("", 2, 3), (None, 2, 3), (0, 2, 3), (("even",), 2, 3), ([], 2, 3), ({}, 1, 2), "eve",
                    ("live", 2, 3), (b"even", 2, 3), ("turn", 1, 2), ("even", (2, 3)), ("beside", "even", (1, 2))]

# Starts that are refused behind their word: each with the name of the error and its attribute.
REFUSED = [(("bases", 9, [()]), "BadBook", "size"), (("bases", True, 7), "BadBook", "size"),
           (("bases", 2, []), "BadBook", "bases"), (("bases", 2, [(0,), ()]), "BadBook", "bases"),
           (("bases", 2, [[0]]), "BadBook", "bases"), (("bases", 4, [(0, 1), (2, 3)]), "BadBook", "exchange"),
           (("even", 5, 9), "BadNumber", "size"), (("even", 4, 3), "BadNumber", "rank"),
           (("even", True, 3), "BadNumber", "rank"), (("even", None, None), "BadNumber", "size"),
           (("table", 4, [[1]]), "BadPrime", None), (("table", 17, None), "BadPrime", None),
           (("table", 5, [[1], []]), "BadTable", None), (("table", 5, [[True]]), "BadTable", None),
           (("web", 0, []), "BadNumber", "places"), (("web", 9, None), "BadNumber", "places"),
           (("web", 2, [[0, 1]]), "BadTable", None), (("web", 2, [(0, 2)]), "BadTable", None)]

DEEDS = [("turn",), ("short",), ("leave", 0), ("leave", GREAT), ("draw", 3), ("twin", 7), ("freer", ()),
         ("freer", [0, 1, 2]), ("freer", (2, 1)), ("freer", [5, 5]), ("rename", [1, 0]), ("rename", ()),
         ("rename", (0, GREAT)), ("beside", ("even", 1, 2)), ("beside", ("bases", 1, [(0,)])),
         ("beside", ("web", 2, ())), ("beside", ("table", 3, [[1, 2], (0, 1)]))]

NO_DEEDS = ODDS + [0, (), "turn", ["turn"], ("turn", 0), ("turn", ()), ("short", None), ("Turn",), ("leave",),
                   ("leave", -1), ("leave", True), ("leave", None), ("leave", "0"), ("leave", [0]), ("leave", 0, 1),
                   ("leave", 1.0), ["leave", 0], ("draw",), ("draw", -GREAT), ("twin", False), ("twin", 0, 0),
                   ("freer",), ("freer", 0), ("freer", [0, -1]), ("freer", [True]), ("freer", {0: 1}),
                   ("freer", [[0]]), ("freer", "01"), ("rename", None), ("rename", [0, "1"]), ("rename", [0], [1]),
                   ("beside",), ("beside", None), ("beside", ["even", 1, 2]), ("beside", ("even", 3, 2)),
                   ("beside", ("even", 1, 9)), ("beside", "even 1 2"), ("beside", ("turn",)),
                   ("beside", ("table", 4, [])), ("undo",), ("redo",), ("even", 1, 2), (None, 0), ([], 0), (0, 0),
                   ("", 0), ("turn", 0, 1), ("short", None, None), ("turn", ("even", 1, 2)), ("live", ("even", 1, 2)),
                   ("Beside", ("even", 1, 2)), ("leave", ("even", 1, 2)), ("freer", ("even", 1, 2)), ("leave", 0, None, 0)]


def tuples(thing):
    """The same with tuples for lists, at every depth."""
    return tuple(tuples(part) for part in thing) if isinstance(thing, (list, tuple)) else thing


def plain_twin(book, thing):
    return Book(book.size + 1, list(book.bases) + [tuple(sorted(set(base) - {thing})) + (book.size,)
                                                   for base in book.bases if thing in base])


def plain_done(book, deed):
    """The book behind a deed that can be done."""
    word, told = (*deed, None)[:2]
    if word == "beside":
        return side_by_side(book, started(told))
    if word in ("turn", "short"):
        return {"turn": turned, "short": cut_short}[word](book)
    told = tuple(told) if word == "freer" else told
    return {"leave": left_out, "draw": drawn_in, "freer": made_freer, "rename": renamed,
            "twin": plain_twin}[word](book, told)


def plain_led(lot, deed):
    """The lot to which a deed leads a watched lot."""
    if deed[0] in ("leave", "draw"):
        return tuple(sorted(x - (x > deed[1]) for x in lot if x != deed[1]))
    if deed[0] == "rename":
        return tuple(sorted(deed[1][x] for x in lot))
    return lot


def can_be_done(book, deed):
    """Whether a deed can be done now, straight from the document."""
    word, told = (*deed, None)[:2]
    if word == "turn":
        return True
    if word == "short":
        return book.rank > 0
    if word in ("leave", "draw"):
        return told < book.size
    if word == "twin":
        return told < book.size < 8
    if word == "freer":
        return tuple(told) in relaxable(book)
    if word == "rename":
        return sorted(told) == list(range(book.size))
    return book.size + started(told).size <= 8


def chance_deed(book, chance):
    """Any deed, some of which cannot be done."""
    word = chance.choice(["turn", "short", "leave", "draw", "twin", "twin", "freer", "freer", "rename", "beside",
                          "beside"])
    if word in ("turn", "short"):
        return (word,)
    if word in ("leave", "draw", "twin"):
        return word, chance.randint(0, book.size)
    if word == "freer":
        lots = relaxable(book) or [tuple(range(chance.randint(0, 2)))]
        return word, chance.choice([tuple, list])(chance.choice(lots))
    if word == "rename":
        order = chance.sample(range(book.size), book.size)
        return word, chance.choice([tuple, list])(order + [0] * (chance.random() < 0.1))
    return word, chance.choice([("even", 1, 1), ("even", 1, 2), ("even", 0, 1), ("even", 2, 3), ("bases", 1, [(0,)]),
                                ("web", 2, [(0, 1), (0, 1)]), ("table", 2, [[1, 1], [1, 1]])])


def chance_lot(book, chance):
    return tuple(sorted(chance.sample(range(book.size), chance.randint(0, book.size))))


def runs(many, seed=100):
    """Some starts, each with a source of chance of its own."""
    return [(STARTS[k % len(STARTS)], Random(seed + k)) for k in range(many)]

"""Texts to test with: lines changed a little, and what they say, straight from the document."""

import re

from flatrooms.books import Book
from flatrooms.errors import FlatError
from flatrooms.live import started
from tests.samples import ODDS

NUMBER = "(?:0|-?[1-9][0-9]*)"
ROW = f"(?:-|{NUMBER}(?: {NUMBER})*)"
START = {"even": f"even {NUMBER} {NUMBER}", "bases": f"bases {NUMBER}(?: / {ROW})*",
         "table": f"table {NUMBER}(?: / {ROW})*", "web": f"web {NUMBER}(?: / {ROW})*"}

# Values that are no strings.
NO_TEXTS = [thing for thing in ODDS if not isinstance(thing, str)] + [0, 7, b"turn", ["turn"], ("even", 2, 3), b"live"]


def changed(line):
    """The line changed a little in every way, each once."""
    found = [line + " ", " " + line, line.replace(" ", "  "), line.upper(), line.title(), line.capitalize(), "",
             line[:-1], line[1:], line + "\t", line.replace(" ", "\t"), line + "\r", line.replace(" ", ""), line + "-",
             line + " -", line + " 0", line + " /", line + " / ", "- " + line, line + ",", line + "\u00b2",
             line + " \u0663", line + "."]
    for number in re.finditer("-?[0-9]+", line):
        start, stop = number.span()
        for other in ("0", "+", "-", " ", "-0", "_"):
            found.append(line[:start] + other + line[start:])
            found.append(line[:stop] + other + line[stop:])
        for other in ("", "-", "9", "x", "1.0", "0x1", "1_0", "\uff11"):
            found.append(line[:start] + other + line[stop:])
    for at, sign in enumerate(line):
        if sign == " ":
            found.append(line[:at] + " " + line[at:])
            found.append(line[:at] + "\n" + line[at + 1:])
    return sorted(set(found) - {line})


def numbers_of(row):
    return () if row == "-" else tuple(int(word) for word in row.split(" "))


def start_told(line):
    """The start with this text, None if there is none."""
    word = line.split(" ")[0] if isinstance(line, str) else None
    if word not in START or not re.fullmatch(START[word], line):
        return None
    head, *rows = line.split(" / ")
    start = (word, *numbers_of(head[len(word) + 1:]))
    start = start if word == "even" else (*start, tuple(numbers_of(row) for row in rows))
    try:
        started(start)
    except FlatError:
        return None
    return start


def deed_told(line):
    """The deed with this text, None if there is none."""
    if line in ("turn", "short"):
        return (line,)
    if not isinstance(line, str):
        return None
    word, _, rest = line.partition(" ")
    if word == "beside":
        start = start_told(rest)
        return None if start is None else (word, start)
    if word in ("leave", "draw", "twin") and re.fullmatch("0|[1-9][0-9]*", rest):
        return word, int(rest)
    if word in ("freer", "rename") and re.fullmatch(ROW, rest) and min((0, *numbers_of(rest))) == 0:
        return word, numbers_of(rest)
    return None


def book_told(text):
    """The book with this text, or the index of what is wrong."""
    first, *others = text.split("\n")
    if not re.fullmatch("book [0-8]", first):
        return 0
    bases = []
    for at, line in enumerate(others, start=1):
        if not re.fullmatch("-|[0-7](?: [0-7])*", line) or sorted(set(numbers_of(line))) != list(numbers_of(line)):
            return at
        bases.append(numbers_of(line))
    try:
        book = Book(int(first[-1]), bases)
    except FlatError:
        return len(others) + 1
    return book if book.bases == tuple(bases) else len(others) + 1

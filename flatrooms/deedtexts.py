"""Starts and deeds as lines, written and read."""

from flatrooms.errors import BadDeed, BadText
from flatrooms.live import BARE_DEEDS, LIST_DEEDS, is_deed, is_start, started
from flatrooms.wordings import read_number, read_row, row_text


def start_text(start):
    """The line of a start."""
    # This refuses what is no start.
    started(start)
    word, first, second = start
    if word == "even":
        return f"{word} {first} {second}"
    return " / ".join([f"{word} {first}", *[row_text(row) for row in second]])


def start_of_text(text):
    """The start with this line, which may be any value."""
    start = read_start(text)
    if start is None:
        raise BadText(0)
    return start


def deed_text(deed):
    """The line of a deed."""
    if not is_deed(deed):
        raise BadDeed("no deed")
    word = deed[0]
    if word in BARE_DEEDS:
        return word
    told = deed[1]
    if word == "beside":
        return f"{word} {start_text(told)}"
    if word in LIST_DEEDS:
        return f"{word} {row_text(told)}"
    return f"{word} {told}"


def deed_of_text(text):
    """The deed with this line, which may be any value."""
    deed = read_deed(text)
    if deed is None:
        raise BadText(0)
    return deed


def read_start(text):
    """The start with this line, None for any other value."""
    if not isinstance(text, str):
        return None
    parts = text.split(" / ")
    word, _, numbers = parts[0].partition(" ")
    head = read_row(numbers)
    rows = [read_row(part) for part in parts[1:]]
    if head is None or None in rows:
        return None
    # How many numbers stand ahead of the rows, and that an even book has no rows, is_start judges.
    start = (word,) + head if word == "even" and not rows else (word,) + head + (tuple(rows),)
    return start if is_start(start) else None


def read_deed(text):
    """The deed with this line, None for any other value."""
    if not isinstance(text, str):
        return None
    word, gap, rest = text.partition(" ")
    if gap == "":
        deed = (word,)
    elif word == "beside":
        deed = (word, read_start(rest))
    elif word in LIST_DEEDS:
        deed = (word, read_row(rest))
    else:
        deed = (word, read_number(rest))
    return deed if is_deed(deed) else None

"""Lots without broken rounds, and the ways to shade the places of a web."""

from flatrooms.books import need_book
from flatrooms.errors import BadNumber
from flatrooms.kinds import is_number_within
from flatrooms.makers import need_web
from flatrooms.masks import mask_of
from flatrooms.powers import power
from flatrooms.ranks import free_lots, least_bound

MOST_HUES = 6


def unbroken(book):
    """The ascending list of the free lots that have no broken round within."""
    need_book(book)
    # An idle thing is a round: broken, it is the lot () that lies in every lot.
    broken = [mask_of(lot[1:]) for lot in least_bound(book)]
    return [lot for lot in free_lots(book) if not _has_one(mask_of(lot), broken)]


def shadings(places, ties, hues):
    """The number of ways to give each place a hue such that no tie has the same one twice."""
    need_web(places, ties)
    if not is_number_within(hues, 0, MOST_HUES):
        raise BadNumber("hues")
    return _shaded(places, list(ties), hues)


def _has_one(mask, others):
    return any([other & mask == other for other in others])


def _shaded(many, ties, hues):
    """The number of ways for so many places, some of which ties speak of."""
    if not ties:
        return power(hues, many)
    start, end = ties[0]
    if start == end:
        return 0
    # The ways that the first tie forbids are those that shade both its places as one.
    merged = [(_joined(one, start, end), _joined(other, start, end)) for one, other in ties[1:]]
    return _shaded(many, ties[1:], hues) - _shaded(many - 1, merged, hues)


def _joined(place, start, end):
    return start if place == end else place

"""The errors of all that works in the room, towers, and the tidy ones among them."""

from flatrooms.books import need_book
from flatrooms.errors import BadBook, BadNumber, TooMany
from flatrooms.insides import Room, flats_over
from flatrooms.kinds import is_lot, is_number
from flatrooms.ranks import idle

MOST_IN_ROOM = 7


def tidy_towers(book, degree):
    """The ascending list of the tidy towers of this degree."""
    return towers_in(room_of(book), degree)


def room_sizes(book):
    """The tuple of how many tidy towers there are, for degrees from 0 to rank - 1."""
    return sizes_in(room_of(book))


def towers_in(room, degree):
    """The ascending list of the tidy towers of degree, any value; raises unless it is a number from 0 on."""
    if not is_number(degree) or degree < 0:
        raise BadNumber("degree")
    return tidy_list(room, degree)


def sizes_in(room):
    """The tuple of how many tidy towers there are of each degree."""
    return tuple([len(tidy_list(room, degree)) for degree in range(room.most + 1)])


def room_of(book):
    """The room of a book; raises for what has none."""
    need_room(book)
    return Room(book, 0)


def need_room(book):
    """Raises unless book is a book that has a room."""
    need_book(book)
    if idle(book):
        raise BadBook("idle")
    if book.rank == 0:
        raise BadBook("rank")
    if book.size > MOST_IN_ROOM:
        raise TooMany(MOST_IN_ROOM)


def tidy_list(room, degree):
    """The ascending list of the tidy towers of this degree, a number from 0 on."""
    # There are none beyond the greatest degree; without this test a great one would search in vain.
    if degree > room.most:
        return []
    return sorted([lots_tower(room, tower) for tower in _tidy_over(room, 0, room.behind, degree)])


def tidy_masks(room, degree):
    """What tidy_list has, in its sequence, with masks for the flats."""
    return [mask_tower(room, tower) for tower in tidy_list(room, degree)]


def is_tower(room, thing):
    """Whether thing, any value, is a tower of the book of the room."""
    if not isinstance(thing, tuple) or not all([_is_step(room, pair) for pair in thing]):
        return False
    masks = [room.masks[pair[0]] for pair in thing]
    return all([low & high == low and low != high for low, high in zip(masks, masks[1:])])


def mask_tower(room, tower):
    """A tower with masks for its flats."""
    return tuple([(room.masks[flat], times) for flat, times in tower])


def lots_tower(room, tower):
    """A tower with flats for its masks."""
    return tuple([(room.lots[mask], times) for mask, times in tower])


def _is_step(room, pair):
    """Whether pair is a flat with a letter, and times from 1 on."""
    if not isinstance(pair, tuple) or len(pair) != 2:
        return False
    flat, times = pair
    return is_lot(flat, room.size) and flat in room.masks and is_number(times) and times >= 1


def _tidy_over(room, low, behind, degree):
    """The list of the tidy towers, of masks, of this degree whose flats lie over low, of rank behind."""
    if degree == 0:
        return [()]
    found = []
    for flat in flats_over(room, low):
        most = min(degree, room.ranks[flat] - behind - 1)
        for times in range(1, most + 1):
            for rest in _tidy_over(room, flat, room.ranks[flat], degree - times):
                found.append(((flat, times), *rest))
    return found

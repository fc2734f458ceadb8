"""Forms of the lower half of the room, and the sums that a path of steps leads to nothing."""

from flatrooms.errors import BadNumber
from flatrooms.insides import product_of_sums, told_table
from flatrooms.kinds import is_number_within
from flatrooms.steps import path_rows, step_sums
from flatrooms.tables import kept_rows
from flatrooms.towers import room_of, tidy_list, tidy_masks


def form_table(book, degree, sums):
    """The last numbers of each two tidy towers of degree, multiplied, times all of sums."""
    room = _lower_room(book, degree)
    steps = _steps_of(room, sums, room.most - 2 * degree)
    return form_rows(room, degree, steps)


def kept_sums(book, degree, sums):
    """Sums of tidy towers of degree, free of one another, that make up all that sums multiply to nothing."""
    room = _lower_room(book, degree)
    steps = _steps_of(room, sums, room.most - 2 * degree + 1)
    towers = tidy_list(room, degree)
    found = []
    for numbers in kept_rows(path_rows(room, degree, steps)):
        found.append({tower: number for tower, number in zip(towers, numbers) if number != 0})
    return found


def form_rows(room, degree, steps):
    """form_table of what step_sums makes of sums."""
    towers = tidy_masks(room, degree)
    return told_table(room, towers, towers, product_of_sums(room, steps))


def _lower_room(book, degree):
    """The room of a book; raises unless degree is at most half of its greatest degree."""
    room = room_of(book)
    if not is_number_within(degree, 0, room.most // 2):
        raise BadNumber("degree")
    return room


def _steps_of(room, sums, many):
    """What step_sums makes of sums; raises unless there are so many of them."""
    steps = step_sums(room, sums)
    if len(steps) != many:
        raise BadNumber("sums")
    return steps

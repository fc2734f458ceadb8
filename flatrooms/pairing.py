"""Opposite parts of the room: what each sum of one degree tells of those of the other one."""

from flatrooms.errors import BadNumber, BadTable
from flatrooms.insides import told_table
from flatrooms.kinds import is_list_of_numbers, is_number_within
from flatrooms.rooms import lots_sum
from flatrooms.tables import stepped
from flatrooms.towers import room_of, tidy_list, tidy_masks


def opposite_table(book, degree):
    """The last numbers of the products of the tidy towers of degree and of the opposite degree."""
    room = room_with(book, degree)
    return opposite_rows(room, degree)


def told_by_last(book, degree, numbers):
    """The sum of tidy towers of degree whose products with those of the opposite one are told."""
    room = room_with(book, degree)
    if not is_list_of_numbers(numbers) or len(numbers) != len(tidy_list(room, room.most - degree)):
        raise BadTable("no list of a number for each tidy tower of the opposite degree")
    return lots_sum(room, told_in(room, degree, numbers))


def told_in(room, degree, numbers):
    """told_by_last with masks for the flats."""
    rows = opposite_rows(room, room.most - degree)
    told = _solution([[*row, number] for row, number in zip(rows, numbers)])
    return {tower: number for tower, number in zip(tidy_masks(room, degree), told) if number != 0}


def opposite_rows(room, degree):
    """The table of last numbers of the tidy towers of degree times those of the opposite one."""
    others = tidy_masks(room, room.most - degree)
    return told_table(room, tidy_masks(room, degree), others, {(): 1})


def room_with(book, degree):
    """The room of a book; raises unless degree is one of its degrees."""
    room = room_of(book)
    if not is_number_within(degree, 0, room.most):
        raise BadNumber("degree")
    return room


def _solution(rows):
    """The whole numbers x[0], x[1], .. with row[0] * x[0] + row[1] * x[1] + .. the last one of each row."""
    steps, _ = stepped(rows)
    found = []
    # The determinant is 1 or -1, so each of the divisions comes out.
    for step in reversed(steps):
        known = sum([number * told for number, told in zip(step[1:], found)])
        found = [(step[-1] - known) // step[0], *found]
    return found

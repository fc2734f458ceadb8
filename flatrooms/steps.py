"""Steps by sums of degree 1, from one part of the room to a later one."""

from flatrooms.errors import BadSum
from flatrooms.insides import degree_of, product_of_sums, sum_product
from flatrooms.kinds import is_list
from flatrooms.pairing import room_with
from flatrooms.rooms import mask_sum
from flatrooms.towers import tidy_masks


def path_table(book, degree, sums):
    """The tidy towers of degree, each multiplied by all of sums, at those of the degree that this leads to."""
    room = room_with(book, degree)
    return path_rows(room, degree, step_sums(room, sums))


def step_sums(room, sums):
    """The list of sums with masks for the flats; raises unless all towers in them are of degree 1."""
    if not is_list(sums):
        raise BadSum("no list of sums")
    steps = [mask_sum(room, one) for one in sums]
    if not all([degree_of(tower) == 1 for one in steps for tower in one]):
        raise BadSum("not all towers are of degree 1")
    return steps


def path_rows(room, degree, steps):
    """path_table of what step_sums makes of sums."""
    path = product_of_sums(room, steps)
    ends = tidy_masks(room, degree + len(steps))
    rows = []
    for tower in tidy_masks(room, degree):
        led = sum_product(room, {tower: 1}, path)
        rows.append(tuple([led.get(end, 0) for end in ends]))
    return tuple(rows)

"""The room of a book from within: flats are masks, and a tower is a tuple of pairs (mask, times)."""

from math import comb

from flatrooms.masks import flat_masks, lot_of, rank_table


class Room:
    """The flats of a book that have letters, and what has been worked out of its towers.

    The room and the wider room differ in one number alone, the rank that counts as that of what stands behind
    the first flat of a tower: 0 in the room, -1 in the wider room. most is the greatest degree of a tidy tower.
    """

    def __init__(self, book, behind):
        ranks = rank_table(book)
        self.behind = behind
        self.most = book.rank - 1 - behind
        self.size = book.size
        self.rank = book.rank
        self.top = (1 << book.size) - 1
        self.ranks = {mask: ranks[mask] for mask in flat_masks(ranks) if ranks[mask] > 0}
        self.lots = {mask: lot_of(mask) for mask in self.ranks}
        self.masks = {self.lots[mask]: mask for mask in self.lots}
        self.known = {}
        self.rises = {}


def flats_over(room, mask):
    """The list of the flats with letters that have all things of mask, and more."""
    return [flat for flat in room.ranks if flat & mask == mask and flat != mask]


def degree_of(tower):
    return sum([times for _, times in tower])


def tower_product(one, other):
    """The tower that two towers multiply to, None if that is nothing."""
    if one == () or other == ():
        return one + other
    for flat, _ in one:
        for more, _ in other:
            if flat & more != flat and flat & more != more:
                return None
    times = {flat: many for flat, many in one}
    for flat, many in other:
        times[flat] = times.get(flat, 0) + many
    # A flat within another one has the lesser mask, so the pairs ascend.
    return tuple(sorted(times.items()))


def sum_product(room, one, other):
    """The tidied product of two sums of towers."""
    return tidied_sum(room, _plain_product(one, other))


def product_of_sums(room, sums):
    """The tidied product of all of sums, {(): 1} of none."""
    product = {(): 1}
    for one in sums:
        product = sum_product(room, product, one)
    return product


def sum_power(room, one, many):
    """The tidied product of so many factors one, {(): 1} of none."""
    product = {(): 1}
    square = one
    left = many
    # By squares, so that a great power ends, too.
    while left > 0:
        if left & 1:
            product = sum_product(room, product, square)
        left = left >> 1
        if left > 0:
            square = sum_product(room, square, square)
    return product


def letter_sum(room, numbers):
    """The tidied sum of the letters of flats, each times its number; numbers is a dict from masks."""
    return tidied_sum(room, {((flat, 1),): numbers[flat] for flat in numbers})


def last_of(room, towers):
    """The last number of a sum of towers of the greatest degree."""
    # The letter of all things, so many times, is the one tidy tower of this degree, () for degree 0.
    last = ((room.top, room.most),) if room.most > 0 else ()
    number = tidied_sum(room, towers).get(last, 0)
    return -number if room.most & 1 else number


def last_of_product(room, one, other):
    """The last number of the product of two sums whose degrees are together the greatest one."""
    return last_of(room, _plain_product(one, other))


def told_table(room, ones, others, towers):
    """The tuple of tuples of the last numbers of each of ones times each of others times a sum of towers."""
    return tuple([tuple([_last_of_three(room, one, other, towers) for other in others]) for one in ones])


def tidied_sum(room, towers):
    """The sum of tidy towers that a sum of towers is."""
    total = {}
    for tower in towers:
        parts = tidy_parts(room, tower)
        for part in parts:
            total[part] = total.get(part, 0) + towers[tower] * parts[part]
    return {part: total[part] for part in total if total[part] != 0}


def tidy_parts(room, tower):
    """The sum of tidy towers that a tower is. The room keeps it: it must not be changed."""
    if tower not in room.known:
        room.known[tower] = _worked_out(room, tower)
    return room.known[tower]


def _plain_product(one, other):
    """The product of two sums of towers as it comes, not tidied."""
    total = {}
    for first in one:
        for second in other:
            tower = tower_product(first, second)
            if tower is not None:
                total[tower] = total.get(tower, 0) + one[first] * other[second]
    return total


def _last_of_three(room, one, other, towers):
    tower = tower_product(one, other)
    return 0 if tower is None else last_of_product(room, {tower: 1}, towers)


def _worked_out(room, tower):
    # Ahead of all else: by steps, times without a limit would not come to an end.
    if degree_of(tower) > room.most:
        return {}
    at = _untidy_at(room, tower)
    if at is None:
        return {tower: 1}
    return tidied_sum(room, _lifted(room, tower, at))


def _untidy_at(room, tower):
    """The index of the first pair of a tower whose times are too many, None if it is tidy."""
    behind = room.behind
    for at, (flat, times) in enumerate(tower):
        if times >= room.ranks[flat] - behind:
            return at
        behind = room.ranks[flat]
    return None


def _lifted(room, tower, at):
    """The sum of towers with greater flats that a tower is whose times at this index are too many.

    Let G be the flat at the index, F the one ahead of it, and d the ranks of G more than those of F (for the
    first flat, than what stands behind it). Of G and of all flats over it let the letters be added: behind F,
    the power d of this sum is nothing. So the letter of G, d times, is less all other parts of that power.
    """
    flat, times = tower[at]
    power = room.ranks[flat] - (room.ranks[tower[at - 1][0]] if at > 0 else room.behind)
    total = {}
    for many in range(1, power + 1):
        left = times - many
        low = tower[:at] + (((flat, left),) if left > 0 else ())
        parts = _risen(room, flat, many)
        for part in parts:
            high = tower_product(part, tower[at + 1:])
            if high is not None:
                total[low + high] = total.get(low + high, 0) - comb(power, many) * parts[part]
    return total


def _risen(room, flat, many):
    """The sum of the letters of all flats over flat, so many times multiplied, by towers as they come."""
    if many == 0:
        return {(): 1}
    if (flat, many) not in room.rises:
        found = {}
        for higher in flats_over(room, flat):
            for times in range(1, many + 1):
                rest = _risen(room, higher, many - times)
                for tower in rest:
                    found[((higher, times),) + tower] = comb(many, times) * rest[tower]
        room.rises[(flat, many)] = found
    return room.rises[(flat, many)]

"""What a value is: numbers, lists, lots, sequences of things. All of this judges any value."""


def is_number(thing):
    """Whether thing is an int that is not a bool."""
    return isinstance(thing, int) and not isinstance(thing, bool)


def is_number_within(thing, least, most):
    return is_number(thing) and least <= thing <= most


def is_list(thing):
    return isinstance(thing, (list, tuple))


def is_list_of_numbers(thing):
    return is_list(thing) and all([is_number(part) for part in thing])


def is_lot(thing, size):
    """Whether thing is an ascending tuple of different numbers from 0 to size - 1."""
    if not isinstance(thing, tuple):
        return False
    least = 0
    for part in thing:
        if not is_number_within(part, least, size - 1):
            return False
        least = part + 1
    return True


def is_order(thing, size):
    """Whether thing is a list of the numbers from 0 to size - 1 in some sequence."""
    return is_list_of_numbers(thing) and sorted(thing) == list(range(size))

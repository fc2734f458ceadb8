"""The errors of the package, all directly below FlatError.

An error with an attribute is made of it, which may be any value. No message is made of that value
ahead of time: Python keeps the value itself and writes it only when the error is shown.
"""


class FlatError(ValueError):
    """What all errors of this package are."""


class BadBook(FlatError):
    """No book, or this part of it will not do (None: the whole)."""

    def __init__(self, part):
        self.part = part


class BadDeed(FlatError):
    """No deed."""


class BadLive(FlatError):
    """No live book."""


class BadLot(FlatError):
    """No lot, or not one of the wanted kind."""


class BadName(FlatError):
    """No name."""


class BadNumber(FlatError):
    """This part is no number, or not one of the wanted ones."""

    def __init__(self, part):
        self.part = part


class BadPrime(FlatError):
    """No prime from 2 to 13."""


class BadRow(FlatError):
    """No row."""


class BadStart(FlatError):
    """No start."""


class BadSum(FlatError):
    """No sum of the wanted kind."""


class BadTable(FlatError):
    """No table of the wanted kind."""


class BadText(FlatError):
    """A text of another form; at is the index of its first wrong line."""

    def __init__(self, at):
        self.at = at


class BadThing(FlatError):
    """No thing of the book."""


class BadTower(FlatError):
    """No tower of the wanted kind."""


class BadWeights(FlatError):
    """No weights."""


class NoWatch(FlatError):
    """Nothing is watched under this name."""

    def __init__(self, name):
        self.name = name


class NothingLeft(FlatError):
    """Nothing is left to be undone or done again."""


class TooMany(FlatError):
    """More things than this many."""

    def __init__(self, most):
        self.most = most

"""Books out of numbers, out of tables, out of webs."""

from flatrooms.books import MOST, Book
from flatrooms.errors import BadNumber, BadPrime, BadTable
from flatrooms.kinds import is_list, is_list_of_numbers, is_number, is_number_within
from flatrooms.masks import lots_of

PRIMES = (2, 3, 5, 7, 11, 13)


def even_book(rank, size):
    """The book of which all lots of rank things are bases."""
    if not is_number_within(size, 0, MOST):
        raise BadNumber("size")
    if not is_number_within(rank, 0, size):
        raise BadNumber("rank")
    return Book(size, lots_of(size, rank))


def table_book(prime, rows):
    """The book of the rows: free are those that are free of one another modulo the prime."""
    if not is_number(prime) or prime not in PRIMES:
        raise BadPrime("no prime from 2 to 13")
    if not _are_rows(rows):
        raise BadTable("no list of at most 8 rows of numbers of one length")
    rank = _rank_modulo(prime, rows)
    bases = []
    for lot in lots_of(len(rows), rank):
        if _rank_modulo(prime, [rows[thing] for thing in lot]) == rank:
            bases.append(lot)
    return Book(len(rows), bases)


def web_book(places, ties):
    """The book of the ties: free are those that make no round."""
    need_web(places, ties)
    rank = _rank_of_ties(places, ties)
    bases = []
    for lot in lots_of(len(ties), rank):
        if _rank_of_ties(places, [ties[thing] for thing in lot]) == rank:
            bases.append(lot)
    return Book(len(ties), bases)


def need_web(places, ties):
    """Raises unless ties are at most 8 pairs of places."""
    if not is_number_within(places, 1, MOST):
        raise BadNumber("places")
    if not is_list(ties) or len(ties) > MOST or not all([_is_tie(places, tie) for tie in ties]):
        raise BadTable("no list of at most 8 pairs of places")


def _is_tie(places, tie):
    if not isinstance(tie, tuple) or len(tie) != 2:
        return False
    return all([is_number_within(place, 0, places - 1) for place in tie])


def _are_rows(rows):
    if not is_list(rows) or len(rows) > MOST:
        return False
    if not all([is_list_of_numbers(row) for row in rows]):
        return False
    return all([len(row) == len(rows[0]) for row in rows])


def _rank_modulo(prime, rows):
    """How many of rows are free of one another modulo the prime, at most."""
    left = [[number % prime for number in row] for row in rows]
    rank = 0
    while left:
        pivot = left.pop()
        if any(pivot):
            rank += 1
            left = [_cleared(prime, row, pivot) for row in left]
    return rank


def _cleared(prime, row, pivot):
    """Times of row, less times of pivot, such that it is 0 where pivot begins."""
    at = [number != 0 for number in pivot].index(True)
    return [(pivot[at] * one - row[at] * other) % prime for one, other in zip(row, pivot)]


def _rank_of_ties(places, ties):
    """How many of ties make no round, at most: each one that joins two pieces is one more."""
    pieces = list(range(places))
    rank = 0
    for start, end in ties:
        if pieces[start] != pieces[end]:
            rank += 1
            old = pieces[start]
            new = pieces[end]
            pieces = [new if piece == old else piece for piece in pieces]
    return rank

"""Numbers and rows as words of a line, written and read."""

from flatrooms.kinds import is_lot

FIGURES = "0123456789"
# Of numbers of more than nine figures nothing is promised; Python itself refuses to read those of some thousands.
MOST_FIGURES = 900


def row_text(row):
    """A row by its numbers, - if it has none."""
    if len(row) == 0:
        return "-"
    return " ".join([str(number) for number in row])


def read_row(text):
    """The tuple of the numbers of a row, None if the text is no row."""
    if text == "-":
        return ()
    numbers = [read_number(word) for word in text.split(" ")]
    return None if None in numbers else tuple(numbers)


def read_lot(text, size):
    """The lot of things below size whose row the text is, None if there is none."""
    row = read_row(text)
    return row if is_lot(row, size) else None


def read_number(word):
    """The number that is written so, None if there is none."""
    figures = word[1:] if word.startswith("-") else word
    if not 1 <= len(figures) <= MOST_FIGURES or not all([figure in FIGURES for figure in figures]):
        return None
    number = int(word)
    # No zeros ahead, and no - ahead of 0.
    return number if str(number) == word else None

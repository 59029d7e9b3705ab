"""Rows of light and dark cells (document, point 1)."""

from surelabels.common import check_within, is_within
from surelabels.errors import BadRow


def is_row(thing):
    """Tell whether a thing is a row: a tuple of the integers 0 and 1."""
    return isinstance(thing, tuple) and all([is_within(cell, 0, 1) for cell in thing])


def is_row_of(thing, length):
    """Tell whether a thing is a row of this length."""
    return is_row(thing) and len(thing) == length


def check_row(thing, part):
    """Raise BadRow for what is no row."""
    if not is_row(thing):
        raise BadRow(part)


def apart(one, other):
    """Return the number of places at which two rows of one length differ."""
    check_row(one, "one")
    check_row(other, "other")
    if len(one) != len(other):
        raise BadRow("length")
    return len([1 for cell, beside in zip(one, other) if cell != beside])


def turned(row):
    """Return the row with its cells in the other order."""
    return row[::-1]


def cell_number(row):
    """Return the integer whose binary digits are the cells, the highest one first."""
    number = 0
    for cell in row:
        number = 2 * number + cell
    return number


def row_with(number, width):
    """Return the row of this width that has this number."""
    check_within(width, 0, 12, "width")
    check_within(number, 0, (1 << width) - 1, "number")
    return tuple([(number >> place) & 1 for place in reversed(range(width))])


def blocks(row, width):
    """Return the list of the rows of this width of which a row consists."""
    check_row(row, "row")
    check_within(width, 1, 6, "width")
    if len(row) % width != 0:
        raise BadRow("length")
    return [row[place:place + width] for place in range(0, len(row), width)]

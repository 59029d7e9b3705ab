"""What windows do to all rows (document, points 6.3 to 6.5)."""

from surelabels.cells import cell_number, check_row, row_with
from surelabels.common import check_within
from surelabels.windows import Window, swept


def _rows_of(length):
    """List the rows of a length, ascending."""
    return [row_with(number, length) for number in range(1 << length)]


def _rows_seen(radius):
    """List the rows, in order, that are no longer than the cells that a window of this radius looks at.

    Whatever a window does to a cell of some row, it does to a cell of one of these: to the
    middle one of the row of just the cells that it looks at.
    """
    return [row for length in range(2 * radius + 2) for row in _rows_of(length)]


def _inner_window(window, radius):
    """Return the window of a smaller radius that does the same where the outer cells are light."""
    outer = window.radius - radius
    return Window(radius, [window.table[number << outer] for number in range(1 << (2 * radius + 1))])


def least_window(window):
    """Return the window with the least radius that does the same."""
    offers = [_inner_window(window, radius) for radius in range(window.radius + 1)]
    return [offer for offer in offers if unlike_row(window, offer) is None][0]


def unlike_row(one, other):
    """Return the least row that two windows sweep to unlike rows, or None."""
    for row in _rows_seen(max(one.radius, other.radius)):
        if swept(one, row) != swept(other, row):
            return row
    return None


def _changed_row(window, cell):
    """Return the least row in which some cell of this value is changed, or None."""
    for row in _rows_seen(window.radius):
        if (cell, 1 - cell) in list(zip(row, swept(window, row))):
            return row
    return None


def never_lightens(window):
    """Return None if each dark cell stays dark in every row, or the least row in which one does not."""
    return _changed_row(window, 1)


def never_darkens(window):
    """Return None if each light cell stays light in every row, or the least row in which one does not."""
    return _changed_row(window, 0)


def _falling_pair(window, length):
    """Return the least rows (less, more) of a length for which the window does not rise, or None."""
    rows = _rows_of(length)
    made = [cell_number(swept(window, row)) for row in rows]
    for less, one in enumerate(made):
        for more in range(less + 1, len(made)):
            if less & more == less and one & made[more] != one:
                return (rows[less], rows[more])
    return None


def rises(window):
    """Return None if more dark cells are swept to more, or the least pair (less, more) for which this fails."""
    pairs = [_falling_pair(window, length) for length in range(2 * window.radius + 2)]
    found = [pair for pair in pairs if pair is not None]
    return found[0] if found else None


def rests(window, row):
    """Tell whether the swept row is the row."""
    return swept(window, row) == row


def many_rest(window, length):
    """Return the number of the rows of a length that rest."""
    check_within(length, 0, 200, "length")
    kept = (1 << (2 * window.radius)) - 1
    # The beginnings of rows, counted by the number of their last 2 * radius cells.
    numbers = {0: 1}
    for place in range(-window.radius, length):
        # The cell that becomes known last is the one by radius behind the place.
        cells = (0, 1) if place + window.radius < length else (0,)
        longer = {}
        for ends in numbers:
            for cell in cells:
                looked = 2 * ends + cell
                if place < 0 or window.table[looked] == (looked >> window.radius) & 1:
                    longer[looked & kept] = longer.get(looked & kept, 0) + numbers[ends]
        numbers = longer
    return sum(numbers.values())


def swept_till(window, row, most):
    """Return how often a row was swept until it rests, and the row then; -1 if it does not in `most` sweeps."""
    check_row(row, "row")
    check_within(most, 0, 200, "most")
    number = 0
    after = swept(window, row)
    while after != row and number < most:
        row = after
        number += 1
        after = swept(window, row)
    return (number if after == row else -1, row)

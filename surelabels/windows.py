"""Windows that sweep rows, and their makers (document, points 6.1 and 6.2)."""

from surelabels.cells import cell_number, check_row, is_row, row_with
from surelabels.common import check_within, is_within, items_of
from surelabels.errors import BadWindow, TooMany


def _table_of(thing, size):
    """Return a tuple or a list of this many cells as a tuple, or raise BadWindow."""
    table = items_of(thing)
    if table is None or len(table) != size or not is_row(table):
        raise BadWindow("table")
    return table


class Window:
    """A filter that gives to each place of a row the table's cell for the cells around it."""

    def __init__(self, radius, table):
        if not is_within(radius, 0, 3):
            raise BadWindow("radius")
        self.radius = radius
        self.table = _table_of(table, 1 << (2 * radius + 1))

    def __eq__(self, other):
        return isinstance(other, Window) and self.radius == other.radius and self.table == other.table


def swept_inside(window, cells):
    """Return what a window gives to the places that have radius cells of a row on either side."""
    size = 2 * window.radius + 1
    return tuple([window.table[cell_number(cells[place:place + size])] for place in range(len(cells) - size + 1)])


def swept(window, row):
    """Return the row of what a window gives to each place of a row, with light cells around it."""
    check_row(row, "row")
    light = (0,) * window.radius
    return swept_inside(window, light + row + light)


def same():
    """Return the window that leaves each cell as it is."""
    return Window(0, (0, 1))


def _by_dark_cells(radius, gives):
    """Return the window whose cell for some cells is what gives returns for the number of dark ones."""
    check_within(radius, 0, 3, "radius")
    width = 2 * radius + 1
    return Window(radius, [gives(sum(row_with(number, width))) for number in range(1 << width)])


def darkest(radius):
    """Return the window that gives the greatest of the cells."""
    return _by_dark_cells(radius, lambda dark: int(dark > 0))


def lightest(radius):
    """Return the window that gives the least of the cells."""
    return _by_dark_cells(radius, lambda dark: int(dark > 2 * radius))


def middle(radius):
    """Return the window that gives the middle one of the cells."""
    return _by_dark_cells(radius, lambda dark: int(dark > radius))


def behind(one, other):
    """Return the window that gives what other gives in the row, without end, that one gives."""
    radius = one.radius + other.radius
    if radius > 3:
        raise TooMany(3)
    width = 2 * radius + 1
    table = []
    for number in range(1 << width):
        table.extend(swept_inside(other, swept_inside(one, row_with(number, width))))
    return Window(radius, table)

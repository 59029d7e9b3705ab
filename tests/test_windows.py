"""Tests of surelabels.windows: points 6.1 and 6.2."""

import random

from surelabels.errors import BadNumber, BadRow, BadWindow, TooMany
from surelabels.windows import Window, behind, darkest, lightest, middle, same, swept
from tests.helpers import Case, nested, rows, things
from tests.test_cells import not_rows


def some_windows(many, radiuses=(0, 1, 2, 3), seed=11):
    """Return windows of chance, the same ones each time."""
    chance = random.Random(seed)
    made = []
    for _ in range(many):
        radius = chance.choice(radiuses)
        made.append(Window(radius, tuple(chance.randint(0, 1) for _ in range(2 ** (2 * radius + 1)))))
    return made


def looking_at(radius, gives):
    """Return the window of this radius whose items gives returns for the tuple of cells that it looks at."""
    return Window(radius, tuple(gives(cells) for cells in rows(2 * radius + 1)))


def cell_at(row, place):
    """Return the cell of a row at a place, a light one ahead of it and behind it."""
    return row[place] if 0 <= place < len(row) else 0


def swept_as_told(window, row):
    """Return the swept row, cell by cell as the document says."""
    made = []
    for place in range(len(row)):
        digits = "".join(str(cell_at(row, near)) for near in range(place - window.radius, place + window.radius + 1))
        made.append(window.table[int(digits, 2)])
    return tuple(made)


def is_table(thing, size):
    """Tell whether an object is a tuple or a list of this many cells."""
    return (type(thing) in (tuple, list) and len(thing) == size
            and all(type(cell) is int and cell in (0, 1) for cell in thing))


class TestWindow(Case):

    def test_fields(self):
        for radius in range(4):
            table = (0, 1) * 4 ** radius
            made = Window(radius, table)
            self.equal((made.radius, made.table), (radius, table))
        self.equal(Window(table=(1, 0), radius=0).table, (1, 0))

    def test_the_table_as_a_list(self):
        table = [0, 1, 1, 0, 1, 0, 0, 1]
        made = Window(1, table)
        self.equal(made.table, (0, 1, 1, 0, 1, 0, 0, 1))
        self.assertTrue(made == Window(1, (0, 1, 1, 0, 1, 0, 0, 1)))
        self.equal(table, [0, 1, 1, 0, 1, 0, 0, 1])

    def test_a_list_changed_afterwards(self):
        table = [0, 1]
        made = Window(0, table)
        table[0] = 1
        table.append(0)
        self.equal(made.table, (0, 1))
        self.equal(swept(made, (0, 1)), (0, 1))

    def test_wrong_radius(self):
        for thing in things() + [4, 5, -1]:
            if not (type(thing) is int and 0 <= thing <= 3):
                self.raises(BadWindow("radius"), Window, thing, (0, 1))
                self.raises(BadWindow("radius"), Window, thing, thing)

    def test_wrong_table(self):
        for thing in things():
            for radius in range(4):
                if not is_table(thing, 2 ** (2 * radius + 1)):
                    self.raises(BadWindow("table"), Window, radius, thing)

    def test_an_item_too_few_or_too_many(self):
        for radius in range(4):
            size = 2 ** (2 * radius + 1)
            for many in (0, 1, size - 2, size - 1, size + 1, size + 2, 2 * size, 4 * size):
                if many != size:
                    self.raises(BadWindow("table"), Window, radius, (0,) * many)
                    self.raises(BadWindow("table"), Window, radius, [1] * many)

    def test_an_item_that_is_no_cell(self):
        for thing in things() + [2, True, False, "0", None]:
            if not (type(thing) is int and thing in (0, 1)):
                self.raises(BadWindow("table"), Window, 0, (thing, 1))
                self.raises(BadWindow("table"), Window, 0, [0, thing])
                self.raises(BadWindow("table"), Window, 1, (0, 1, 0, 1, thing, 1, 0, 1))

    def test_the_radius_is_looked_at_first(self):
        self.raises(BadWindow("radius"), Window, 4, None)
        self.raises(BadWindow("radius"), Window, True, (0,))
        self.raises(BadWindow("radius"), Window, None, (0, 2))

    def test_equal_windows(self):
        self.assertTrue(Window(1, (0,) * 8) == Window(1, [0] * 8))
        self.assertFalse(Window(1, (0,) * 8) != Window(1, [0] * 8))
        self.assertFalse(Window(0, (0, 1)) == Window(0, (1, 0)))
        # These two do the same, but are not the same window.
        self.assertFalse(Window(0, (0, 0)) == Window(1, (0,) * 8))


class TestSwept(Case):

    def test_by_hand(self):
        self.equal(swept(middle(1), (1, 0, 1, 1, 0)), (0, 1, 1, 1, 0))
        self.equal(swept(row=(1, 0, 0, 0), window=darkest(1)), (1, 1, 0, 0))
        self.equal(swept(Window(0, (1, 0)), (1, 0, 0)), (0, 1, 1))

    def test_which_cell_is_the_highest_digit(self):
        # Only the cells 1, 0, 0 have the number 4, and only 0, 0, 1 the number 1.
        self.equal(swept(Window(1, (0, 0, 0, 0, 1, 0, 0, 0)), (1, 0, 0, 0)), (0, 1, 0, 0))
        self.equal(swept(Window(1, (0, 1, 0, 0, 0, 0, 0, 0)), (0, 0, 0, 1)), (0, 0, 1, 0))
        ahead = looking_at(3, lambda cells: cells[0])
        self.equal(swept(ahead, (1, 0, 0, 1, 0, 1, 1)), (0, 0, 0, 1, 0, 0, 1))

    def test_light_cells_around(self):
        edges = looking_at(1, lambda cells: int(cells[0] == 0 and cells[2] == 0))
        self.equal(swept(edges, (1,)), (1,))
        self.equal(swept(edges, (1, 1)), (0, 0))
        self.equal(swept(Window(3, (1,) + (0,) * 127), (0, 0)), (1, 1))

    def test_the_empty_row(self):
        for window in some_windows(20):
            self.equal(swept(window, ()), ())

    def test_all_short_rows(self):
        for window in some_windows(24, seed=12):
            for length in range(8):
                for row in rows(length):
                    self.equal(swept(window, row), swept_as_told(window, row))

    def test_rows_of_400_cells(self):
        chance = random.Random(3)
        for window in some_windows(8, seed=13):
            row = tuple(chance.randint(0, 1) for _ in range(400))
            self.equal(swept(window, row), swept_as_told(window, row))

    def test_wrong_row(self):
        for thing in not_rows() + [nested((0, 1), depth, lambda x: (x,)) for depth in (1, 2, 30)]:
            self.raises(BadRow("row"), swept, middle(1), thing)
            self.raises(BadRow("row"), swept, same(), thing)


class TestMakers(Case):

    def test_same(self):
        self.assertTrue(same() == Window(0, (0, 1)))
        self.assertIsInstance(same(), Window)
        for row in rows(5):
            self.equal(swept(same(), row), row)

    def test_greatest_least_and_middle_one(self):
        for radius in range(4):
            for make, place in ((darkest, -1), (lightest, 0), (middle, radius)):
                made = make(radius)
                self.assertIsInstance(made, Window)
                self.equal(made.radius, radius)
                self.equal(made.table, tuple(sorted(cells)[place] for cells in rows(2 * radius + 1)))
                self.assertTrue(make(radius=radius) == made)

    def test_radius_0_does_nothing(self):
        for make in (darkest, lightest, middle):
            self.assertTrue(make(0) == same())

    def test_wrong_radius(self):
        for make in (darkest, lightest, middle):
            for thing in things() + [4, -1]:
                if not (type(thing) is int and 0 <= thing <= 3):
                    self.raises(BadNumber("radius"), make, thing)


def around(row, cells):
    """Put this many light cells on either side of a row."""
    return (0,) * cells + row + (0,) * cells


class TestBehind(Case):

    def test_by_hand(self):
        self.assertTrue(behind(same(), same()) == same())
        self.assertTrue(behind(Window(0, (1, 0)), Window(0, (1, 0))) == same())
        self.assertTrue(behind(other=middle(1), one=same()) == middle(1))
        self.assertTrue(behind(middle(1), same()) == middle(1))
        self.assertTrue(behind(darkest(1), darkest(2)) == darkest(3))

    def test_which_one_comes_first(self):
        turn = Window(0, (1, 0))
        self.assertTrue(behind(darkest(1), turn) == looking_at(1, lambda cells: 1 - max(cells)))
        self.assertTrue(behind(turn, darkest(1)) == looking_at(1, lambda cells: 1 - min(cells)))

    def test_the_window_is_not_made_smaller(self):
        shift = looking_at(1, lambda cells: cells[0])
        back = looking_at(1, lambda cells: cells[2])
        made = behind(shift, back)
        self.equal(made.radius, 2)
        self.equal(made.table, tuple(cells[2] for cells in rows(5)))

    def test_against_sweeping_twice(self):
        for first in range(4):
            for second in range(4 - first):
                ones = some_windows(4, (first,), seed=20 + first)
                others = some_windows(4, (second,), seed=30 + second)
                for one, other in zip(ones, others):
                    made = behind(one, other)
                    self.equal(made.radius, first + second)
                    for row in rows(5):
                        twice = swept(other, swept(one, around(row, 20)))
                        self.equal(swept(made, row), twice[20:25])

    def test_near_the_ends_of_a_row(self):
        spread = behind(darkest(1), lightest(1))
        self.equal(swept(spread, (1, 0, 1)), (1, 1, 1))
        self.equal(swept(lightest(1), swept(darkest(1), (1, 0, 1))), (0, 1, 0))

    def test_all_pairs_of_radiuses(self):
        for first in range(4):
            for second in range(4):
                one, other = darkest(first), Window(second, (1,) * 2 ** (2 * second + 1))
                if first + second > 3:
                    self.raises(TooMany(3), behind, one, other)
                    self.raises(TooMany(3), behind, other, one)
                else:
                    self.equal(behind(one, other).table, (1,) * 2 ** (2 * first + 2 * second + 1))

    def test_radius_3_with_light_outer_cells_is_still_too_many(self):
        wide = looking_at(3, lambda cells: cells[3])
        self.raises(TooMany(3), behind, wide, middle(1))

    def test_what_is_joined_stays(self):
        one, other = middle(1), darkest(2)
        behind(one, other)
        self.assertTrue(one == middle(1) and other == darkest(2))

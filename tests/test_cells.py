"""Tests of surelabels.cells: points 0.2 to 0.4, 1.1 and 1.2."""

from surelabels.cells import apart, blocks, cell_number, is_row, row_with, turned
from surelabels.errors import BadNumber, BadRow
from tests.helpers import Case, rows, things

ROWS = [(), (0,), (1,), (0, 1), (0, 1, 0)]


def not_rows():
    """Return the things that are no rows: of those tuples whose cells are just the integers 0 and 1."""
    kept = [thing for thing in things()
            if not (type(thing) is tuple and all(type(cell) is int and cell in (0, 1) for cell in thing))]
    return kept + [[0, 1], [], (0, 1, 2), (0, True), (False,), (0, "1"), ((0,),), (0, None),
                   "01", b"\x00\x01", range(2)]


class TestRows(Case):

    def test_rows(self):
        for row in ROWS + rows(5) + [(0, 1) * 200, (1,) * 400]:
            self.assertIs(is_row(row), True)

    def test_no_rows(self):
        for thing in not_rows():
            self.assertIs(is_row(thing), False, repr(thing))

    def test_one_wrong_cell_at_each_place(self):
        for place in range(5):
            for cell in (2, -1, True, False, None, "0", (0,)):
                row = (0, 1, 0, 1, 1)
                self.assertIs(is_row(row[:place] + (cell,) + row[place + 1:]), False)

    def test_by_name(self):
        self.assertIs(is_row(thing=(0, 1)), True)


class TestApart(Case):

    def test_numbers(self):
        for one, other, number in [((), (), 0), ((0,), (0,), 0), ((0,), (1,), 1), ((0, 1, 1), (1, 1, 0), 2),
                                   ((0, 0, 0), (1, 1, 1), 3), ((1, 0, 1), (1, 0, 1), 0)]:
            self.equal(apart(one, other), number)
        self.equal(apart((0,) * 400, (1,) * 400), 400)

    def test_all_pairs(self):
        for one in rows(4):
            for other in rows(4):
                self.equal(apart(one=one, other=other), sum(a != b for a, b in zip(one, other)))

    def test_wrong_rows(self):
        for thing in not_rows():
            self.raises(BadRow("one"), apart, thing, (0,))
            self.raises(BadRow("other"), apart, (0,), thing)
            self.raises(BadRow("one"), apart, thing, thing)

    def test_lengths(self):
        self.raises(BadRow("length"), apart, (), (0,))
        self.raises(BadRow("length"), apart, (0,), ())
        self.raises(BadRow("length"), apart, (0, 1), (0, 1, 1))

    def test_order_of_the_errors(self):
        self.raises(BadRow("one"), apart, [0, 1], [0])
        self.raises(BadRow("other"), apart, (0, 1), [0])


class TestTurned(Case):

    def test_turned(self):
        self.equal(turned(()), ())
        self.equal(turned((1,)), (1,))
        self.equal(turned((0, 1, 1)), (1, 1, 0))
        self.equal(turned(row=(0, 0, 0, 1)), (1, 0, 0, 0))

    def test_twice(self):
        for row in rows(5):
            self.equal(turned(turned(row)), row)


class TestNumbers(Case):

    def test_cell_number(self):
        self.equal(cell_number(()), 0)
        self.equal(cell_number((0,)), 0)
        self.equal(cell_number((1,)), 1)
        self.equal(cell_number((1, 0)), 2)
        self.equal(cell_number((0, 1, 1)), 3)
        self.equal(cell_number(row=(1, 1, 0, 0)), 12)
        self.equal(cell_number((1,) * 400), 2 ** 400 - 1)

    def test_row_with(self):
        self.equal(row_with(0, 0), ())
        self.equal(row_with(1, 2), (0, 1))
        self.equal(row_with(2, 2), (1, 0))
        self.equal(row_with(number=6, width=4), (0, 1, 1, 0))
        self.equal(row_with(4095, 12), (1,) * 12)
        self.equal(row_with(0, 12), (0,) * 12)
        self.equal(row_with(2048, 12), (1,) + (0,) * 11)

    def test_there_and_back(self):
        for width in range(8):
            for number, row in enumerate(rows(width)):
                self.equal(row_with(number, width), row)
                self.equal(cell_number(row), number)

    def test_wrong_width(self):
        for thing in things():
            if type(thing) is not int or not 0 <= thing <= 12:
                self.raises(BadNumber("width"), row_with, 0, thing)
        for width in (-1, 13, 40, 10 ** 39, True, "3"):
            self.raises(BadNumber("width"), row_with, 0, width)

    def test_wrong_number(self):
        for thing in things():
            if type(thing) is not int or not 0 <= thing <= 7:
                self.raises(BadNumber("number"), row_with, thing, 3)
        for width in range(13):
            self.equal(row_with(2 ** width - 1, width), (1,) * width)
            self.raises(BadNumber("number"), row_with, 2 ** width, width)
            self.raises(BadNumber("number"), row_with, -1, width)

    def test_width_goes_ahead_of_number(self):
        self.raises(BadNumber("width"), row_with, -1, 13)
        self.raises(BadNumber("width"), row_with, None, None)
        self.raises(BadNumber("width"), row_with, True, [])


class TestBlocks(Case):

    def test_blocks(self):
        self.equal(blocks((0, 1, 1, 0), 2), [(0, 1), (1, 0)])
        self.equal(blocks((0, 1, 1, 0), 4), [(0, 1, 1, 0)])
        self.equal(blocks((0, 1, 1), 1), [(0,), (1,), (1,)])
        self.equal(blocks(row=(0, 0, 0, 0, 0, 1, 1, 1, 1, 1, 1, 0), width=6), [(0, 0, 0, 0, 0, 1), (1, 1, 1, 1, 1, 0)])

    def test_empty_row_has_no_blocks(self):
        for width in range(1, 7):
            self.equal(blocks((), width), [])

    def test_blocks_make_the_row(self):
        for width in range(1, 7):
            for many in range(4):
                row = (0, 0, 1, 0, 1, 1, 1)[:width] * many
                self.equal(blocks(row, width), [(0, 0, 1, 0, 1, 1, 1)[:width]] * many)

    def test_wrong_row(self):
        for thing in not_rows():
            self.raises(BadRow("row"), blocks, thing, 1)

    def test_wrong_width(self):
        for thing in things():
            if type(thing) is not int or not 1 <= thing <= 6:
                self.raises(BadNumber("width"), blocks, (), thing)
        for width in (0, 7, -1, 12):
            self.raises(BadNumber("width"), blocks, (0,) * 84, width)

    def test_wrong_length(self):
        for width in range(2, 7):
            for length in range(1, 20):
                if length % width:
                    self.raises(BadRow("length"), blocks, (1,) * length, width)

    def test_order_of_the_errors(self):
        self.raises(BadRow("row"), blocks, [0], 0)
        self.raises(BadNumber("width"), blocks, (0, 0), 7)
        self.raises(BadNumber("width"), blocks, (0, 0, 0), True)

    def test_each_list_is_new(self):
        row = (0, 1, 1, 0)
        first = blocks(row, 2)
        first.append("more")
        self.equal(blocks(row, 2), [(0, 1), (1, 0)])

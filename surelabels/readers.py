"""Readers that find texts in rows, and their makers (document, point 7)."""

from surelabels.books import nearest
from surelabels.cells import apart, blocks, is_row_of, row_with
from surelabels.common import check_within, is_sign, is_within
from surelabels.errors import BadReader, BadRow


def _is_mark(thing):
    """Tell whether a thing is a sign, "start" or "stop"."""
    return is_sign(thing) or isinstance(thing, str) and thing in ("start", "stop")


def _check_reader(width, marks):
    """Raise BadReader for the first part that is wrong."""
    if not is_within(width, 1, 6):
        raise BadReader("width")
    if not isinstance(marks, dict):
        raise BadReader("marks")
    if not all([is_row_of(row, width) and _is_mark(marks[row]) for row in marks]):
        raise BadReader("marks")


class Reader:
    """A mark for each of some rows of one width; several rows may have one mark."""

    def __init__(self, width, marks):
        _check_reader(width, marks)
        self.width = width
        self._marks = {row: marks[row] for row in sorted(marks)}

    @property
    def marks(self):
        """The marks of the rows, ascending: a new dict, so that the reader's own stays as it is."""
        return {row: self._marks[row] for row in self._marks}

    def mark(self, row):
        """Return the mark of a row of the width, None if it has none."""
        if not is_row_of(row, self.width):
            raise BadRow("row")
        return self._marks.get(row)

    def __eq__(self, other):
        return isinstance(other, Reader) and self.width == other.width and self._marks == other._marks


def strict(book):
    """Return the reader that knows just the patterns of a book."""
    return Reader(book.width, {book.pattern(mark): mark for mark in book.all_marks()})


def near(book, most):
    """Return the reader that gives to each row the one mark nearest to it, at most `most` places apart."""
    check_within(most, 0, 6, "most")
    marks = {}
    for number in range(1 << book.width):
        row = row_with(number, book.width)
        found = nearest(book, row)
        if len(found) == 1 and apart(book.pattern(found[0]), row) <= most:
            marks[row] = found[0]
    return Reader(book.width, marks)


def read(reader, row):
    """Return the text that a reader reads in a row, or None."""
    marks = [reader.mark(block) for block in blocks(row, reader.width)]
    if not marks or marks[0] != "start":
        return None
    text = ""
    for mark in marks[1:]:
        if mark == "stop":
            return text
        if mark is None or mark == "start":
            return None
        text += mark
    return None

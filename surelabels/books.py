"""Books of patterns, and the labels of texts (document, point 2)."""

from surelabels.cells import apart, blocks, check_row, is_row, is_row_of, turned
from surelabels.common import check_text, is_sign
from surelabels.errors import BadBook, BadRow, NoSign


def _are_patterns(thing):
    """Tell whether a thing is a dict of 1 to 10 signs with rows of one length from 1 to 6."""
    if not isinstance(thing, dict) or not 1 <= len(thing) <= 10:
        return False
    if not all([is_sign(sign) for sign in thing]):
        return False
    if not all([is_row(row) for row in thing.values()]):
        return False
    widths = sorted({len(row) for row in thing.values()})
    return len(widths) == 1 and 1 <= widths[0] <= 6


def _check_book(patterns, start, stop):
    """Raise BadBook for the first part that is wrong."""
    if not _are_patterns(patterns):
        raise BadBook("patterns")
    rows = list(patterns.values())
    width = len(rows[0])
    if not is_row_of(start, width):
        raise BadBook("start")
    if not is_row_of(stop, width):
        raise BadBook("stop")
    if len(set(rows + [start, stop])) != len(rows) + 2:
        raise BadBook("same")


class Book:
    """A pattern for each of some signs, for the start and for the stop of labels."""

    def __init__(self, patterns, start, stop):
        _check_book(patterns, start, stop)
        self.signs = tuple(sorted(patterns))
        self.width = len(start)
        self.start = start
        self.stop = stop
        self._rows = {sign: patterns[sign] for sign in self.signs}

    @property
    def patterns(self):
        """The rows of the signs, ascending: a new dict, so that the book's own stays as it is."""
        return {sign: self._rows[sign] for sign in self.signs}

    def pattern(self, mark):
        """Return the row of a sign, of "start" or of "stop"."""
        if isinstance(mark, str):
            if mark == "start":
                return self.start
            if mark == "stop":
                return self.stop
            if mark in self._rows:
                return self._rows[mark]
        raise NoSign(mark)

    def all_marks(self):
        """Return the tuple of the signs, "start" and "stop"."""
        return self.signs + ("start", "stop")

    def __eq__(self, other):
        return (isinstance(other, Book) and self._rows == other._rows
                and self.start == other.start and self.stop == other.stop)


def label(book, text):
    """Return the row of a text: start, the patterns of its signs, stop."""
    check_text(text, book.signs)
    cells = list(book.start)
    for sign in text:
        cells.extend(book.pattern(sign))
    cells.extend(book.stop)
    return tuple(cells)


def text_of(book, row):
    """Return the text whose label the row is, None if there is none."""
    check_row(row, "row")
    if len(row) < 2 * book.width or len(row) % book.width != 0:
        return None
    first, *inner, last = blocks(row, book.width)
    if first != book.start or last != book.stop:
        return None
    signs = {book.pattern(sign): sign for sign in book.signs}
    if not all([block in signs for block in inner]):
        return None
    return "".join([signs[block] for block in inner])


def least_apart(book):
    """Return how few places two marks' patterns differ at, with the first two such marks."""
    marks = book.all_marks()
    best = None
    for place, one in enumerate(marks):
        for other in marks[place + 1:]:
            number = apart(book.pattern(one), book.pattern(other))
            if best is None or number < best[0]:
                best = (number, one, other)
    return best


def nearest(book, row):
    """Return the list of the marks whose patterns differ from a row at the fewest places."""
    if not is_row_of(row, book.width):
        raise BadRow("row")
    marks = book.all_marks()
    numbers = [apart(book.pattern(mark), row) for mark in marks]
    least = min(numbers)
    return [mark for mark, number in zip(marks, numbers) if number == least]


def both_ways(book):
    """Return the least text, not empty, whose label is some text's label when turned, or None."""
    if turned(book.stop) != book.start:
        return None
    # Each sign of such a text must have some sign's pattern when turned, so one sign is enough.
    rows = [book.pattern(sign) for sign in book.signs]
    found = [sign for sign in book.signs if turned(book.pattern(sign)) in rows]
    return found[0] if found else None


def turned_book(book):
    """Return the book whose labels are this book's labels, turned."""
    patterns = {sign: turned(book.pattern(sign)) for sign in book.signs}
    return Book(patterns, turned(book.stop), turned(book.start))

"""Tests of surelabels.readers: points 7.1 to 7.3."""

import itertools
import random

from surelabels.books import Book, label
from surelabels.errors import BadNumber, BadReader, BadRow
from surelabels.readers import Reader, near, read, strict
from tests.helpers import Case, hashable, rows, same, texts, things
from tests.test_books import book, some_books
from tests.test_cells import not_rows

MARKS = {(0, 1, 1): "a", (1, 0, 1): "b", (1, 1, 1): "start", (0, 0, 1): "stop"}


def is_mark(thing):
    """Tell whether an object is a sign, "start" or "stop"."""
    return type(thing) is str and (thing in ("start", "stop") or thing in list("0123456789abcdefghijklmnopqrstuvwxyz"))


def some_readers(books, seed=61):
    """Return a reader of chance for each of some books, several rows with one mark among them."""
    chance = random.Random(seed)
    made = []
    for one in books:
        marks = {row: chance.choice(one.all_marks()) for row in rows(one.width) if chance.random() < 0.7}
        made.append(Reader(one.width, marks))
    return made


class TestReader(Case):

    def test_fields(self):
        made = Reader(3, MARKS)
        self.equal(made.width, 3)
        self.equal(made.marks, {(0, 0, 1): "stop", (0, 1, 1): "a", (1, 0, 1): "b", (1, 1, 1): "start"})
        self.assertTrue(Reader(marks=MARKS, width=3) == made)

    def test_no_marks_at_all(self):
        for width in range(1, 7):
            made = Reader(width, {})
            self.equal((made.width, made.marks), (width, {}))
            self.assertIs(made.mark((0,) * width), None)

    def test_each_width_with_all_rows(self):
        signs = "0123456789abcdefghijklmnopqrstuvwxyz"
        for width in range(1, 7):
            marks = {row: signs[number % 36] for number, row in enumerate(rows(width))}
            self.equal(Reader(width, marks).marks, marks)

    def test_several_rows_with_one_mark(self):
        marks = {(0, 0): "start", (0, 1): "start", (1, 0): "z", (1, 1): "z"}
        made = Reader(2, marks)
        self.equal(made.marks, marks)
        self.equal([made.mark(row) for row in rows(2)], ["start", "start", "z", "z"])

    def test_rows_are_told_ascending(self):
        order = [(1, 1), (0, 1), (1, 0), (0, 0)]
        for turned in itertools.permutations(order):
            self.equal(list(Reader(2, {row: "a" for row in turned}).marks), sorted(order))

    def test_a_dict_that_was_passed_and_changed_afterwards(self):
        marks = {(1,): "stop", (0,): "start"}
        made = Reader(1, marks)
        self.equal(marks, {(1,): "stop", (0,): "start"})
        marks[(0,)] = "a"
        del marks[(1,)]
        self.equal(made.marks, {(0,): "start", (1,): "stop"})
        self.equal(made.mark((1,)), "stop")

    def test_a_dict_that_was_told_and_changed_afterwards(self):
        made = Reader(1, {(0,): "start", (1,): "stop"})
        told = made.marks
        told[(0,)] = "a"
        del told[(1,)]
        self.equal(made.marks, {(0,): "start", (1,): "stop"})
        self.equal(made.mark((0,)), "start")
        self.assertIsNot(made.marks, made.marks)

    def test_wrong_width(self):
        for thing in things() + [0, 7, -1]:
            if not (type(thing) is int and 1 <= thing <= 6):
                self.raises(BadReader("width"), Reader, thing, {})
                self.raises(BadReader("width"), Reader, thing, thing)

    def test_wrong_marks(self):
        for thing in things():
            if not same(thing, {}):
                self.raises(BadReader("marks"), Reader, 3, thing)
        self.raises(BadReader("marks"), Reader, 3, list(MARKS.items()))
        self.raises(BadReader("marks"), Reader, 3, None)

    def test_wrong_rows(self):
        for thing in things() + [(0, 1, True), (0, 1, 2), (0, 1), (0, 1, 0, 0), (), 0]:
            if hashable(thing) and not same(thing, (0, 1, 0)):
                self.raises(BadReader("marks"), Reader, 3, {thing: "a"})
                self.raises(BadReader("marks"), Reader, 3, {(1, 1, 0): "a", thing: "a", (1, 1, 1): "b"})

    def test_what_is_no_mark(self):
        for thing in things() + ["A", "_", "stopp", "star", "Start", " a", "10"]:
            if not is_mark(thing):
                self.raises(BadReader("marks"), Reader, 1, {(0,): thing})
                self.raises(BadReader("marks"), Reader, 1, {(1,): "a", (0,): thing})

    def test_the_width_is_looked_at_first(self):
        self.raises(BadReader("width"), Reader, 7, None)
        self.raises(BadReader("width"), Reader, True, {(0,): "A"})

    def test_equal_readers(self):
        self.assertTrue(Reader(3, MARKS) == Reader(3, dict(reversed(list(MARKS.items())))))
        self.assertFalse(Reader(3, MARKS) != Reader(3, MARKS))
        self.assertFalse(Reader(3, MARKS) == Reader(3, {**MARKS, (0, 0, 0): "a"}))
        self.assertFalse(Reader(3, MARKS) == Reader(3, {**MARKS, (0, 1, 1): "b"}))
        self.assertFalse(Reader(3, {}) == Reader(2, {}))


class TestMark(Case):

    def test_each_row(self):
        made = Reader(3, MARKS)
        for row in rows(3):
            self.equal(made.mark(row), MARKS.get(row))
        self.equal(made.mark(row=(0, 1, 1)), "a")

    def test_wrong_row(self):
        made = Reader(3, MARKS)
        for thing in things() + not_rows() + [(), (0,), (0, 1), (0, 1, 1, 0), [0, 1, 1], (0, 1, True), (0, 1, 2)]:
            if not same(thing, (0, 1, 0)):
                self.raises(BadRow("row"), made.mark, thing)


def nearest_as_told(one, row):
    """Return the number of places at which the nearest marks of a book differ from a row, and these marks."""
    numbers = {mark: sum(a != b for a, b in zip(one.pattern(mark), row)) for mark in one.all_marks()}
    least = min(numbers.values())
    return least, [mark for mark in numbers if numbers[mark] == least]


class TestMakers(Case):

    def test_strict(self):
        self.assertTrue(strict(book()) == Reader(3, MARKS))
        self.assertIsInstance(strict(book=book()), Reader)
        for one in some_books(10):
            marks = {one.pattern(mark): mark for mark in one.all_marks()}
            self.assertTrue(strict(one) == Reader(one.width, marks))

    def test_near_by_hand(self):
        one = Book({"a": (0, 0, 0, 0)}, (1, 1, 1, 0), (0, 1, 1, 1))
        self.equal(near(one, 0).marks, {(0, 0, 0, 0): "a", (0, 1, 1, 1): "stop", (1, 1, 1, 0): "start"})
        self.equal(near(one, 1).marks,
                   {(0, 0, 0, 0): "a", (0, 0, 0, 1): "a", (0, 0, 1, 0): "a", (0, 0, 1, 1): "stop", (0, 1, 0, 0): "a",
                    (0, 1, 0, 1): "stop", (0, 1, 1, 1): "stop", (1, 0, 0, 0): "a", (1, 0, 1, 0): "start",
                    (1, 1, 0, 0): "start", (1, 1, 1, 0): "start"})
        # The rows 0110 and 1111 are as near to "start" as to "stop".
        self.assertNotIn((0, 1, 1, 0), near(one, 6).marks)
        self.assertNotIn((1, 1, 1, 1), near(one, 6).marks)

    def test_near_some_books(self):
        ties = 0
        for one in some_books(24, (2, 3, 4, 6)):
            for most in range(7):
                wanted = {}
                for row in rows(one.width):
                    least, marks = nearest_as_told(one, row)
                    ties += len(marks) > 1
                    if len(marks) == 1 and least <= most:
                        wanted[row] = marks[0]
                made = near(book=one, most=most)
                self.assertIsInstance(made, Reader)
                self.equal((made.width, made.marks), (one.width, wanted))
        self.assertGreater(ties, 100)

    def test_near_far_rows(self):
        one = Book({"a": (0,) * 6}, (1, 0, 0, 0, 0, 0), (1, 1, 0, 0, 0, 0))
        self.assertNotIn((1,) * 6, near(one, 3).marks)
        self.equal(near(one, 4).marks[(1,) * 6], "stop")
        self.assertTrue(near(one, 4) == near(one, 6))

    def test_near_0_is_strict(self):
        for one in some_books(10):
            self.assertTrue(near(one, 0) == strict(one))

    def test_wrong_most(self):
        for thing in things() + [7, 8, -1]:
            if not (type(thing) is int and 0 <= thing <= 6):
                self.raises(BadNumber("most"), near, book(), thing)


def read_as_told(reader, row):
    """Return the text that a reader reads in a row, as the document says."""
    cut = [row[place:place + reader.width] for place in range(0, len(row), reader.width)]
    marks = [reader.marks.get(block) for block in cut]
    if marks[:1] != ["start"] or "stop" not in marks:
        return None
    read_marks = marks[1:marks.index("stop")]
    return None if None in read_marks or "start" in read_marks else "".join(read_marks)


class TestRead(Case):

    def setUp(self):
        self.reader = Reader(1, {(0,): "start", (1,): "stop"})
        self.wide = Reader(2, {(0, 0): "start", (0, 1): "a", (1, 0): "stop"})

    def blocks(self, *marks):
        """Return the row whose blocks have these marks for the wide reader."""
        rows_of = {"start": (0, 0), "a": (0, 1), "stop": (1, 0), None: (1, 1)}
        return tuple(cell for mark in marks for cell in rows_of[mark])

    def test_labels(self):
        for text in texts("ab", 4):
            self.equal(read(strict(book()), label(book(), text)), text)
        self.equal(read(row=(1, 1, 1, 0, 0, 1), reader=strict(book())), "")

    def test_no_block_at_all(self):
        self.assertIs(read(self.reader, ()), None)
        self.assertIs(read(self.wide, ()), None)
        self.assertIs(read(Reader(6, {}), ()), None)

    def test_one_block(self):
        for mark in ("start", "a", "stop", None):
            self.assertIs(read(self.wide, self.blocks(mark)), None)

    def test_start_alone_ahead_of_the_stop(self):
        self.equal(read(self.wide, self.blocks("start", "stop")), "")

    def test_start_again(self):
        self.assertIs(read(self.wide, self.blocks("start", "start")), None)
        self.assertIs(read(self.wide, self.blocks("start", "start", "stop")), None)
        self.assertIs(read(self.wide, self.blocks("start", "a", "start", "a", "stop")), None)
        self.equal(read(self.wide, self.blocks("start", "a", "stop", "start", "a", "a", "stop")), "a")

    def test_a_block_without_a_mark(self):
        self.assertIs(read(self.wide, self.blocks("start", None, "stop")), None)
        self.assertIs(read(self.wide, self.blocks("start", "a", None, "stop")), None)
        self.assertIs(read(self.wide, self.blocks(None, "a", "stop")), None)
        self.equal(read(self.wide, self.blocks("start", "a", "stop", None)), "a")
        self.equal(read(self.wide, self.blocks("start", "stop", None, "a")), "")

    def test_stop_in_the_first_block(self):
        self.assertIs(read(self.wide, self.blocks("stop")), None)
        self.assertIs(read(self.wide, self.blocks("stop", "start", "a", "stop")), None)
        self.assertIs(read(self.wide, self.blocks("stop", "stop")), None)

    def test_two_stops(self):
        self.equal(read(self.wide, self.blocks("start", "a", "stop", "a", "stop")), "a")
        self.equal(read(self.wide, self.blocks("start", "stop", "stop")), "")

    def test_no_stop(self):
        self.assertIs(read(self.wide, self.blocks("start", "a", "a")), None)

    def test_a_sign_first(self):
        self.assertIs(read(self.wide, self.blocks("a", "start", "stop")), None)

    def test_all_short_rows(self):
        for reader in [self.reader, self.wide] + some_readers(some_books(6, (2, 3))):
            for many in range(13 // reader.width):
                for row in rows(many * reader.width):
                    self.equal(read(reader, row), read_as_told(reader, row))

    def test_rows_of_400_cells(self):
        self.equal(read(self.wide, self.blocks("start", *["a"] * 198, "stop")), "a" * 198)
        self.equal(read(self.wide, self.blocks("start", "stop", *[None] * 198)), "")

    def test_wrong_row(self):
        for thing in not_rows():
            self.raises(BadRow("row"), read, self.reader, thing)
            self.raises(BadRow("row"), read, self.wide, thing)

    def test_wrong_length(self):
        self.raises(BadRow("length"), read, self.wide, (0,))
        self.raises(BadRow("length"), read, self.wide, self.blocks("start", "stop") + (0,))
        for length in range(1, 13):
            if length % 6:
                self.raises(BadRow("length"), read, Reader(6, {}), (0,) * length)

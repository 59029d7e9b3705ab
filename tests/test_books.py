"""Tests of surelabels.books: points 0.2 to 0.5 and 2.1 to 2.5."""

import random

from surelabels.books import Book, both_ways, label, least_apart, nearest, text_of, turned_book
from surelabels.errors import BadBook, BadRow, BadText, NoSign
from tests.helpers import Case, hashable, rows, texts, things

PATTERNS = {"a": (0, 1, 1), "b": (1, 0, 1)}
START = (1, 1, 1)
STOP = (0, 0, 1)


def book():
    """Return the book of the document's example."""
    return Book(PATTERNS, START, STOP)


def is_short_row(thing):
    """Tell whether an object is a row of 1 to 6 cells."""
    return type(thing) is tuple and 1 <= len(thing) <= 6 and all(type(cell) is int and cell in (0, 1) for cell in thing)


def some_books(many, widths=(2, 3, 4)):
    """Return books of chance, the same ones each time."""
    chance = random.Random(7)
    made = []
    while len(made) < many:
        width = chance.choice(widths)
        count = chance.randint(1, min(10, 2 ** width - 2))
        signs = chance.sample("0123456789abcdefghijklmnopqrstuvwxyz", count)
        taken = chance.sample(rows(width), count + 2)
        made.append(Book(dict(zip(signs, taken)), taken[-2], taken[-1]))
    return made


class TestBook(Case):

    def test_fields(self):
        made = Book({"b": (1, 0, 1), "a": (0, 1, 1), "0": (0, 0, 0)}, START, STOP)
        self.equal(made.signs, ("0", "a", "b"))
        self.equal(made.width, 3)
        self.equal(made.start, START)
        self.equal(made.stop, STOP)
        self.equal(made.patterns, {"0": (0, 0, 0), "a": (0, 1, 1), "b": (1, 0, 1)})

    def test_by_name(self):
        self.assertTrue(Book(stop=STOP, start=START, patterns=PATTERNS) == book())

    def test_one_sign_and_ten(self):
        one = Book({"z": (0, 0)}, (0, 1), (1, 0))
        self.equal((one.signs, one.width), (("z",), 2))
        ten = Book(dict(zip("9876543210", rows(4))), (1, 1, 1, 1), (1, 1, 1, 0))
        self.equal(ten.signs, tuple("0123456789"))
        self.equal(list(ten.patterns), list("0123456789"))
        self.equal(ten.pattern("9"), (0, 0, 0, 0))

    def test_width_six(self):
        wide = Book(dict(zip("abcdefghij", rows(6))), (1,) * 6, (1, 1, 1, 1, 1, 0))
        self.equal(wide.width, 6)

    def test_each_sign_that_there_is(self):
        for sign in "0123456789abcdefghijklmnopqrstuvwxyz":
            self.equal(Book({sign: (0, 0)}, (0, 1), (1, 0)).signs, (sign,))

    def test_wrong_patterns(self):
        for thing in things():
            if thing != {"a": (0, 1)}:
                self.raises(BadBook("patterns"), Book, thing, (1, 1), (0, 0))
        eleven = dict(zip("0123456789a", rows(4)))
        self.raises(BadBook("patterns"), Book, eleven, (1, 1, 1, 1), (1, 1, 1, 0))
        self.raises(BadBook("patterns"), Book, {}, (1, 1), (0, 0))
        self.raises(BadBook("patterns"), Book, [("a", (0, 1))], (1, 1), (0, 0))

    def test_wrong_signs(self):
        for thing in things() + ["A", "ab", "", "_", "/", ":", "`", "{", "aa", 0, b"a"]:
            if hashable(thing) and not (type(thing) is str and len(thing) == 1 and thing in "0ab"):
                self.raises(BadBook("patterns"), Book, {thing: (0, 1)}, (1, 1), (0, 0))
                self.raises(BadBook("patterns"), Book, {"c": (1, 0), thing: (0, 1)}, (1, 1), (0, 0))

    def test_wrong_rows(self):
        for thing in things():
            if not is_short_row(thing):
                self.raises(BadBook("patterns"), Book, {"a": thing}, (1, 1), (0, 0))
                self.raises(BadBook("patterns"), Book, {"a": (0, 1), "b": thing}, (1, 1), (0, 0))

    def test_wrong_widths(self):
        self.raises(BadBook("patterns"), Book, {"a": ()}, (), ())
        self.raises(BadBook("patterns"), Book, {"a": (0,) * 7}, (1,) * 7, (1, 0) * 3 + (1,))
        self.raises(BadBook("patterns"), Book, {"a": (0, 1), "b": (0, 1, 0)}, (1, 1), (0, 0))
        self.raises(BadBook("patterns"), Book, {"a": (0, 1, 0), "b": (0, 1)}, (1, 1), (0, 0))
        self.raises(BadBook("patterns"), Book, {"a": (0, 1), "b": (1, 0), "c": (1,)}, (1, 1), (0, 0))

    def test_wrong_start_and_stop(self):
        for thing in things() + [(0,), (0, 1, 1), [1, 1], (1, True)]:
            if not (is_short_row(thing) and len(thing) == 2):
                self.raises(BadBook("start"), Book, {"a": (0, 1)}, thing, (0, 0))
                self.raises(BadBook("stop"), Book, {"a": (0, 1)}, (1, 1), thing)
                self.raises(BadBook("start"), Book, {"a": (0, 1)}, thing, thing)

    def test_equal_rows(self):
        self.raises(BadBook("same"), Book, {"a": (0, 1), "b": (0, 1)}, (1, 1), (0, 0))
        self.raises(BadBook("same"), Book, {"a": (0, 1), "b": (1, 0), "c": (0, 1)}, (1, 1), (0, 0))
        self.raises(BadBook("same"), Book, {"a": (0, 1)}, (0, 1), (0, 0))
        self.raises(BadBook("same"), Book, {"a": (0, 1)}, (0, 0), (0, 1))
        self.raises(BadBook("same"), Book, {"a": (0, 1)}, (1, 1), (1, 1))

    def test_width_one_has_too_few_rows(self):
        self.raises(BadBook("same"), Book, {"a": (0,)}, (1,), (0,))
        self.raises(BadBook("same"), Book, {"a": (0,)}, (1,), (1,))
        self.raises(BadBook("start"), Book, {"a": (0,)}, (1, 1), (1,))
        self.raises(BadBook("stop"), Book, {"a": (0,)}, (1,), (1, 1))

    def test_order_of_the_parts(self):
        self.raises(BadBook("patterns"), Book, {"a": [0, 1]}, None, None)
        self.raises(BadBook("patterns"), Book, {"a": (0, 1), "A": (0, 1)}, (0, 1), (0, 1, 1))
        self.raises(BadBook("start"), Book, {"a": (0, 1), "b": (0, 1)}, (0, 1, 1), (0, 1, 1))
        self.raises(BadBook("stop"), Book, {"a": (0, 1), "b": (0, 1)}, (0, 1), (0, 1, 1))
        self.raises(BadBook("same"), Book, {"a": (0, 1), "b": (0, 1)}, (0, 1), (0, 1))

    def test_equality(self):
        self.assertTrue(book() == book())
        self.assertFalse(book() != book())
        self.assertTrue(Book(dict(reversed(list(PATTERNS.items()))), START, STOP) == book())
        for other in (Book({"a": (0, 1, 1), "b": (1, 0, 0)}, START, STOP), Book({"a": (0, 1, 1)}, START, STOP),
                      Book({"a": (0, 1, 1), "c": (1, 0, 1)}, START, STOP), Book(PATTERNS, (0, 0, 0), STOP),
                      Book({"b": (0, 1, 1), "a": (1, 0, 1)}, START, STOP), Book(PATTERNS, START, (0, 0, 0)),
                      Book(PATTERNS, STOP, START)):
            self.assertTrue(book() != other)
            self.assertFalse(book() == other)

    def test_passed_dict_is_not_kept(self):
        passed = dict(PATTERNS)
        made = Book(passed, START, STOP)
        self.equal(passed, PATTERNS)
        passed["c"] = (0, 0, 0)
        passed["a"] = (1, 0, 0)
        del passed["b"]
        self.assertTrue(made == book())
        self.equal(made.patterns, PATTERNS)
        self.equal(made.signs, ("a", "b"))
        self.equal(label(made, "ab"), label(book(), "ab"))

    def test_each_returned_dict_is_new(self):
        made = book()
        got = made.patterns
        self.assertIsNot(got, made.patterns)
        got["a"] = (0, 0, 0)
        got["z"] = (0, 1, 0)
        self.equal(made.patterns, PATTERNS)
        self.equal(made.pattern("a"), (0, 1, 1))
        self.assertTrue(made == book())


class TestMarks(Case):

    def test_pattern(self):
        self.equal(book().pattern("a"), (0, 1, 1))
        self.equal(book().pattern("b"), (1, 0, 1))
        self.equal(book().pattern("start"), START)
        self.equal(book().pattern(mark="stop"), STOP)

    def test_no_marks(self):
        for thing in things() + ["c", "A", "ab", "Start", "stop ", ("a",), ["start"], (0, 1, 1)]:
            if not (type(thing) is str and thing in ("a", "b", "start", "stop")):
                self.raises(NoSign(thing), book().pattern, thing)

    def test_all_marks(self):
        self.equal(book().all_marks(), ("a", "b", "start", "stop"))
        self.equal(Book({"z": (0, 0), "0": (1, 1)}, (0, 1), (1, 0)).all_marks(), ("0", "z", "start", "stop"))
        self.equal(Book({"z": (0, 0, 0), "t": (0, 1, 1), "9": (1, 0, 1)}, (0, 1, 0), (1, 0, 0)).all_marks(),
                   ("9", "t", "z", "start", "stop"))


class TestLabels(Case):

    def test_label(self):
        self.equal(label(book(), ""), START + STOP)
        self.equal(label(book(), "a"), START + (0, 1, 1) + STOP)
        self.equal(label(book=book(), text="bab"), START + (1, 0, 1) + (0, 1, 1) + (1, 0, 1) + STOP)
        self.equal(label(book(), "ab" * 30), START + ((0, 1, 1) + (1, 0, 1)) * 30 + STOP)

    def test_wrong_texts(self):
        for thing in things() + [("a", "b"), ["a"], b"ab"]:
            if type(thing) is not str:
                self.raises(BadText(-1), label, book(), thing)

    def test_first_wrong_place(self):
        for text, place in [("c", 0), ("abc", 2), ("aBab", 1), ("ab b", 2), ("a\nb\n", 1), ("xyz", 0), ("start", 0),
                            ("ab0", 2), ("a" * 59 + "c", 59), ("a\u00e9c", 1), ("acac", 1)]:
            self.raises(BadText(place), label, book(), text)

    def test_text_of_each_label(self):
        for made in [book()] + some_books(20):
            for text in texts(made.signs[:3], 3):
                self.equal(text_of(made, label(made, text)), text)

    def test_text_of_all_rows(self):
        known = {label(book(), text): text for text in texts("ab", 2)}
        for length in range(13):
            for row in rows(length):
                self.equal(text_of(book=book(), row=row), known.get(row))

    def test_rows_that_are_no_label(self):
        for row in [(), START, STOP, (1, 1), START + (0,) + STOP, START + STOP + (0,), STOP + START, START + START,
                    START + STOP + STOP, START + START + STOP, STOP + STOP, START + (0, 0, 0) + STOP,
                    START + (0, 1, 1), (0, 1, 1) + STOP, START + (0, 1, 1) + (0, 0, 0) + STOP]:
            self.equal(text_of(book(), row), None)

    def test_text_of_no_row(self):
        for thing in things() + [list(START + STOP), (True,) * 6, "111001"]:
            if not (is_short_row(thing) or thing == () and type(thing) is tuple):
                self.raises(BadRow("row"), text_of, book(), thing)


class TestNearness(Case):

    def test_least_apart(self):
        self.equal(least_apart(book()), (1, "a", "start"))
        self.equal(least_apart(Book({"a": (0, 0, 0, 0)}, (1, 1, 1, 1), (0, 0, 1, 1))), (2, "a", "stop"))
        self.equal(least_apart(Book({"a": (0, 0, 0, 0)}, (1, 1, 1, 1), (0, 1, 1, 1))), (1, "start", "stop"))
        self.equal(least_apart(book=Book({"a": (0,) * 6}, (1,) * 6, (0, 0, 0, 1, 1, 1))), (3, "a", "stop"))

    def test_ties_of_least_apart(self):
        self.equal(least_apart(Book({"a": (0, 0), "b": (1, 1)}, (0, 1), (1, 0))), (1, "a", "start"))
        self.equal(least_apart(Book({"a": (0, 0), "b": (0, 1)}, (1, 1), (1, 0))), (1, "a", "b"))
        self.equal(least_apart(Book({"b": (0, 0), "a": (1, 1)}, (1, 0), (0, 1))), (1, "a", "start"))
        self.equal(least_apart(Book({"a": (0, 0, 0), "b": (1, 1, 1), "c": (0, 1, 1)}, (1, 0, 0), (1, 1, 0))),
                   (1, "a", "start"))

    def test_least_apart_of_some_books(self):
        for made in some_books(60):
            marks = made.all_marks()
            found = [(sum(a != b for a, b in zip(made.pattern(marks[i]), made.pattern(marks[j]))), i, j)
                     for i in range(len(marks)) for j in range(i + 1, len(marks))]
            number, one, other = min(found)
            self.equal(least_apart(made), (number, marks[one], marks[other]))

    def test_nearest(self):
        self.equal(nearest(book(), (0, 1, 1)), ["a"])
        self.equal(nearest(book(), (1, 1, 1)), ["start"])
        self.equal(nearest(book(), (0, 0, 0)), ["stop"])
        self.equal(nearest(book=book(), row=(1, 1, 0)), ["start"])
        self.equal(nearest(book(), (0, 1, 0)), ["a"])
        self.equal(nearest(book(), (1, 0, 0)), ["b"])

    def test_ties_of_nearest(self):
        square = Book({"b": (0, 0), "a": (1, 1)}, (0, 1), (1, 0))
        self.equal(nearest(square, (0, 0)), ["b"])
        three = Book({"b": (0, 0, 1), "a": (0, 1, 0)}, (1, 0, 0), (1, 1, 1))
        self.equal(nearest(three, (0, 0, 0)), ["a", "b", "start"])
        self.equal(nearest(three, (0, 1, 1)), ["a", "b", "stop"])
        self.equal(nearest(three, (1, 1, 0)), ["a", "start", "stop"])

    def test_nearest_of_some_books(self):
        for made in some_books(25):
            for row in rows(made.width):
                far = [sum(a != b for a, b in zip(made.pattern(mark), row)) for mark in made.all_marks()]
                self.equal(nearest(made, row), [mark for mark, n in zip(made.all_marks(), far) if n == min(far)])

    def test_nearest_to_no_row(self):
        for thing in things() + [(), (0, 1), (0, 1, 1, 0), [0, 1, 1], (0, 1, True)]:
            if not (is_short_row(thing) and len(thing) == 3):
                self.raises(BadRow("row"), nearest, book(), thing)

    def test_each_list_is_new(self):
        made = book()
        nearest(made, (0, 1, 1)).clear()
        self.equal(nearest(made, (0, 1, 1)), ["a"])


class TestTurning(Case):

    def test_both_ways(self):
        self.equal(both_ways(book()), None)
        self.equal(both_ways(Book({"a": (0, 1, 0)}, (1, 0, 0), (0, 0, 1))), "a")
        self.equal(both_ways(book=Book({"a": (0, 0, 1, 0), "b": (1, 1, 1, 1)}, (0, 1, 1, 1), (1, 1, 1, 0))), "b")

    def test_both_ways_by_another_sign(self):
        self.equal(both_ways(Book({"a": (0, 0, 0, 1), "c": (0, 1, 0, 0), "d": (0, 0, 1, 0)},
                                  (1, 0, 1, 1), (1, 1, 0, 1))), "c")

    def test_not_both_ways_for_its_signs(self):
        self.equal(both_ways(Book({"a": (0, 1, 1)}, (1, 0, 0), (0, 0, 1))), None)

    def test_not_both_ways_for_start_and_stop(self):
        self.equal(both_ways(Book({"a": (0, 1, 0)}, (1, 0, 0), (0, 1, 1))), None)
        self.equal(both_ways(Book({"a": (0, 1, 0)}, (0, 0, 0), (1, 1, 1))), None)
        self.equal(both_ways(Book({"a": (0, 1), "b": (1, 0)}, (0, 0), (1, 1))), None)

    def test_both_ways_of_some_books(self):
        told = 0
        for made in some_books(400):
            found = [text for text in texts(made.signs, 2)[1:] if text_of(made, label(made, text)[::-1]) is not None]
            self.equal(both_ways(made), found[0] if found else None)
            told += bool(found)
        self.assertGreater(told, 20)

    def test_turned_book(self):
        made = turned_book(book())
        self.assertIsInstance(made, Book)
        self.equal(made.patterns, {"a": (1, 1, 0), "b": (1, 0, 1)})
        self.equal(made.start, (1, 0, 0))
        self.equal(made.stop, (1, 1, 1))
        self.assertTrue(turned_book(book=book()) == Book({"a": (1, 1, 0), "b": (1, 0, 1)}, (1, 0, 0), (1, 1, 1)))

    def test_turned_twice(self):
        for made in some_books(20):
            self.assertTrue(turned_book(turned_book(made)) == made)

    def test_labels_of_the_turned_book(self):
        for made in some_books(20):
            for text in texts(made.signs[:3], 3):
                self.equal(label(turned_book(made), text[::-1]), label(made, text)[::-1])

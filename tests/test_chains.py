"""Tests of surelabels.chains: points 8.1, 8.2, 8.4 and 13.2."""

import itertools

from surelabels.books import Book
from surelabels.chains import Chain, outcome, seen, size, with_reader, with_rule, with_wear, with_window
from surelabels.errors import BadChain, BadRow, NoText
from surelabels.readers import Reader, near, strict
from surelabels.rules import Rule, all_texts, lengths
from surelabels.wears import Wear, flips, rare, strokes
from surelabels.windows import Window, darkest, lightest, middle, same
from tests.helpers import Case, rows, texts, things
from tests.test_books import book
from tests.test_cells import not_rows
from tests.told import STAY, label_of, lets, outcome_of, some_chains, text_read

EVEN = Rule(("a", "b"), ((1, 0), (0, 1)), (0,))
PARTS = ("book", "rule", "wear", "window", "reader")


def parts():
    """Return the parts of the chain of the document's example."""
    return {"book": book(), "rule": EVEN, "wear": flips(1, 1), "window": same(), "reader": strict(book())}


def chain(**other):
    """Return the chain of the document's example, perhaps with other parts."""
    return Chain(**{**parts(), **other})


class TestChain(Case):

    def test_fields(self):
        made = chain()
        for part in PARTS:
            self.assertTrue(getattr(made, part) == parts()[part])
        by_position = Chain(*[parts()[part] for part in PARTS])
        self.assertTrue(by_position == made)

    def test_each_part_wrong_alone(self):
        for part in PARTS:
            for thing in things():
                if thing.__class__ is not parts()[part].__class__:
                    self.raises(BadChain(part), Chain, **{**parts(), part: thing})

    def test_a_class_is_no_object_of_it(self):
        for part in PARTS:
            self.raises(BadChain(part), Chain, **{**parts(), part: parts()[part].__class__})

    def test_several_parts_wrong(self):
        for many in range(2, 6):
            for wrong in itertools.combinations(PARTS, many):
                self.raises(BadChain(wrong[0]), Chain, **{**parts(), **{part: None for part in wrong}})

    def test_parts_that_do_not_fit(self):
        wide = Reader(4, {(0,) * 4: "start"})
        self.raises(BadChain("signs"), chain, rule=all_texts(("a",)))
        self.raises(BadChain("signs"), chain, rule=all_texts(("a", "b", "c")))
        self.raises(BadChain("signs"), chain, rule=all_texts(("a", "c")))
        self.raises(BadChain("width"), chain, reader=wide)
        self.raises(BadChain("width"), chain, reader=Reader(2, {}))
        self.raises(BadChain("marks"), chain, reader=Reader(3, {(0, 0, 0): "c"}))
        self.raises(BadChain("marks"), chain, reader=Reader(3, {(0, 0, 0): "a", (0, 0, 1): "start", (0, 1, 0): "0"}))

    def test_the_radius_and_the_width(self):
        narrow = Book({"a": (0, 1)}, (1, 1), (0, 0))
        fitting = {"book": narrow, "rule": all_texts(("a",)), "wear": flips(1, 1), "reader": strict(narrow)}
        for make in (middle, darkest):
            for radius in (0, 1, 2):
                self.equal(Chain(window=make(radius), **fitting).window.radius, radius)
            self.raises(BadChain("radius"), Chain, window=make(3), **fitting)
        self.equal(chain(window=middle(3)).window.radius, 3)

    def test_a_radius_that_could_be_less_counts_as_it_is(self):
        narrow = Book({"a": (0, 1)}, (1, 1), (0, 0))
        idle = Window(3, tuple(cells[3] for cells in rows(7)))
        self.raises(BadChain("radius"), Chain, narrow, all_texts(("a",)), flips(1, 1), idle, strict(narrow))

    def test_the_order_of_what_does_not_fit(self):
        narrow = Book({"a": (0, 1)}, (1, 1), (0, 0))
        good = {"rule": all_texts(("a",)), "window": same(), "reader": strict(narrow)}
        bad = {"rule": EVEN, "window": middle(3), "reader": Reader(3, {(0, 0, 0): "z"})}
        due = {"rule": "signs", "reader": "width", "window": "radius"}
        for many in (1, 2, 3):
            for wrong in itertools.combinations(("rule", "reader", "window"), many):
                passed = {part: (bad if part in wrong else good)[part] for part in good}
                self.raises(BadChain(due[wrong[0]]), Chain, narrow, wear=flips(1, 1), **passed)
        self.raises(BadChain("radius"), Chain, narrow, all_texts(("a",)), flips(1, 1), middle(3),
                    Reader(2, {(0, 0): "z"}))
        self.raises(BadChain("reader"), Chain, narrow, EVEN, flips(1, 1), middle(3), None)

    def test_a_reader_without_start_or_stop(self):
        for marks in ({}, {(0, 0, 0): "a"}, {(0, 0, 0): "start"}, {(0, 0, 0): "stop"}):
            self.equal(chain(reader=Reader(3, marks)).reader.marks, marks)

    def test_equal_chains(self):
        self.assertTrue(chain() == chain())
        self.assertFalse(chain() != chain())
        others = {"rule": all_texts(("a", "b")), "wear": flips(1, 2), "window": middle(1), "reader": near(book(), 1)}
        for part, thing in others.items():
            self.assertFalse(chain() == chain(**{part: thing}))
        turned = Book({"a": (0, 1, 1), "b": (1, 0, 1)}, (1, 1, 1), (1, 0, 0))
        self.assertFalse(chain() == chain(book=turned))


class TestWith(Case):

    def setUp(self):
        self.calls = {"rule": with_rule, "wear": with_wear, "window": with_window, "reader": with_reader}

    def test_a_part_that_fits(self):
        others = {"rule": lengths(("a", "b"), 1, 2), "wear": rare(1, 2, 3), "window": lightest(2),
                  "reader": near(book(), 2)}
        for part, call in self.calls.items():
            made = chain()
            got = call(made, others[part])
            self.assertIsInstance(got, Chain)
            self.assertTrue(got == chain(**{part: others[part]}))
            self.assertTrue(call(**{"chain": made, part: others[part]}) == got)
            self.assertTrue(made == chain(), "the chain itself stays")

    def test_a_part_that_does_not_fit(self):
        made = chain()
        self.raises(BadChain("signs"), with_rule, made, all_texts(("a",)))
        self.raises(BadChain("width"), with_reader, made, Reader(2, {}))
        self.raises(BadChain("marks"), with_reader, made, Reader(3, {(0, 0, 0): "c"}))
        narrow = Book({"a": (0, 1)}, (1, 1), (0, 0))
        short = Chain(narrow, all_texts(("a",)), flips(1, 1), same(), strict(narrow))
        self.raises(BadChain("radius"), with_window, short, middle(3))
        self.assertTrue(with_window(short, middle(2)).window == middle(2))
        self.assertTrue(made == chain())

    def test_a_part_that_is_of_no_such_class(self):
        for part, call in self.calls.items():
            for thing in things():
                if thing.__class__ is not parts()[part].__class__:
                    self.raises(BadChain(part), call, chain(), thing)


def worn_rows_of(made, text):
    """Return all rows of the length of the label of a text."""
    return rows(len(label_of(made.book, text)))


class TestSeen(Case):

    def test_by_hand(self):
        self.equal(seen(chain(), (1, 1, 1, 0, 1, 1, 0, 0, 1)), "a")
        self.equal(seen(worn=(1, 1, 1, 0, 0, 1), chain=chain()), "")
        self.assertIs(seen(chain(), (1, 1, 1, 0, 0, 0, 0, 0, 1)), None)
        self.assertIs(seen(chain(), ()), None)

    def test_the_window_sweeps_first(self):
        made = chain(window=Window(0, (1, 0)))
        self.equal(seen(made, (0, 0, 0, 1, 0, 0, 1, 1, 0)), "a")
        self.assertIs(seen(made, (1, 1, 1, 0, 1, 1, 0, 0, 1)), None)

    def test_the_window_sweeps_the_whole_row(self):
        # A cell becomes what stands behind it, also where this is in the next block.
        ahead = Window(1, tuple(cells[2] for cells in rows(3)))
        reader = Reader(3, {(1, 1, 1): "start", (0, 1, 0): "stop"})
        self.equal(seen(chain(window=ahead, reader=reader), (0, 1, 1, 1, 0, 1)), "")
        self.assertIs(seen(chain(window=ahead, reader=reader), (0, 1, 1, 0, 0, 1)), None)
        # And here what stands ahead of it: the first one becomes light.
        back = Window(1, tuple(cells[0] for cells in rows(3)))
        reader = Reader(3, {(0, 1, 1): "start", (1, 0, 1): "stop"})
        self.equal(seen(chain(window=back, reader=reader), (1, 1, 1, 0, 1, 1)), "")
        self.assertIs(seen(chain(window=back, reader=reader), (1, 1, 0, 0, 1, 1)), None)

    def test_some_chains(self):
        for made in some_chains(20, 71):
            for many in range(0, 10 // made.book.width):
                for row in rows(many * made.book.width):
                    self.equal(seen(made, row), text_read(made, row))

    def test_wrong_rows(self):
        for thing in not_rows():
            self.raises(BadRow("row"), seen, chain(), thing)
        for length in (1, 2, 4, 5, 7, 400):
            self.raises(BadRow("length"), seen, chain(), (1,) * length)


class TestOutcome(Case):

    def test_by_hand(self):
        made = chain()
        self.equal(outcome(made, "aa", (1, 1, 1, 0, 0, 1, 0, 1, 1, 0, 0, 1)), "wrong")
        self.equal(outcome(made, "aa", (1, 1, 1, 0, 1, 1, 0, 1, 1, 0, 0, 1)), "right")
        self.equal(outcome(made, "aa", (1, 1, 1, 0, 1, 1, 0, 0, 1, 0, 0, 1)), "none")
        self.equal(outcome(made, "aa", (0, 1, 1, 0, 1, 1, 0, 1, 1, 0, 0, 1)), "none")
        self.equal(outcome(worn=(1, 1, 1, 0, 0, 1), text="", chain=made), "right")
        # A text is right only if it is the very text, whatever stands in the row.
        self.equal(outcome(made, "b", (1, 1, 1, 0, 0, 1, 1, 0, 1)), "wrong")
        self.equal(outcome(made, "b", (1, 1, 1, 1, 0, 1, 0, 0, 1)), "right")

    def test_some_chains(self):
        met = set()
        for made in some_chains(24, 72):
            for text in texts(made.book.signs, 2):
                if len(label_of(made.book, text)) <= 9 and lets(made.rule, text):
                    for worn in worn_rows_of(made, text):
                        wanted = outcome_of(made, text, worn)
                        met.add(wanted)
                        self.equal(outcome(made, text, worn), wanted)
        self.equal(sorted(met), ["none", "right", "wrong"])

    def test_texts_of_sixty_signs(self):
        text = "ab" * 30
        self.equal(outcome(chain(), text, label_of(book(), text)), "right")

    def test_a_text_that_the_rule_does_not_let(self):
        for text in ("a", "ab", "aba" + "a", "aaa"):
            if not lets(EVEN, text):
                self.raises(NoText(), outcome, chain(), text, label_of(book(), text))
        self.raises(NoText(), outcome, chain(rule=Rule(("a", "b"), ((0, 0),), ())), "", (1, 1, 1, 0, 0, 1))

    def test_what_is_no_text_of_the_signs(self):
        for thing in things() + ["c", "aac", "A", "aa ", "start"]:
            if not (isinstance(thing, str) and set(thing) <= set("ab") and lets(EVEN, thing)):
                self.raises(NoText(), outcome, chain(), thing, (1, 1, 1, 0, 0, 1))

    def test_wrong_worn(self):
        for thing in not_rows():
            self.raises(BadRow("worn"), outcome, chain(), "", thing)
        for length in range(20):
            if length != 12:
                self.raises(BadRow("worn"), outcome, chain(), "aa", (1,) * length)

    def test_the_text_is_looked_at_first(self):
        self.raises(NoText(), outcome, chain(), "a", None)
        self.raises(NoText(), outcome, chain(), None, (1,))
        self.raises(NoText(), outcome, chain(), "c", (1, 2))


def ring(states, good=(0,)):
    """Return the rule of the sign a that counts signs up to a number of states."""
    return Rule(("a",), tuple(((state + 1) % states,) for state in range(states)), good)


def sized(width, radius, places, states):
    """Return a chain with these numbers."""
    made = Book({"a": (0,) * width}, (1,) * width, (0,) * (width - 1) + (1,))
    return Chain(made, ring(states), Wear((STAY,) * places), middle(radius), strict(made))


class TestSize(Case):

    def test_by_hand(self):
        self.equal(size(chain()), 1 * 2 ** 3 * 4)
        self.equal(size(chain(window=middle(1))), 1 * 2 ** 4 * 4)
        self.equal(size(chain(wear=strokes(1, 3))), 3 * 2 ** 3 * 4)
        self.equal(size(chain=chain(rule=all_texts(("a", "b")))), 8)

    def test_all_numbers(self):
        for width in (2, 3, 6):
            for radius in range(min(width, 3) + 1):
                for places in (1, 2, 5, 6):
                    for states in (1, 2, 7, 40):
                        made = sized(width, radius, places, states)
                        self.equal(size(made), places * 2 ** (width + radius) * states ** 2)

    def test_above_what_others_may_look_through(self):
        self.equal(size(sized(3, 2, 1, 25)), 20000)
        self.equal(size(sized(3, 3, 5, 8)), 20480)
        self.equal(size(sized(6, 3, 6, 40)), 4915200)

    def test_no_chain_is_too_wide_to_be_read(self):
        made = sized(6, 3, 6, 40)
        row = label_of(made.book, "a" * 40)
        self.equal(seen(made, row), text_read(made, row))
        self.equal(outcome(made, "a" * 40, row), outcome_of(made, "a" * 40, row))
        self.raises(NoText(), outcome, made, "a", row)
        self.raises(BadRow("length"), seen, made, row[1:])

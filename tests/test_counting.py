"""Tests of surelabels.counting: points 11.1 and 11.2, and 8.4 for it."""

import itertools
import math
import random

from surelabels.books import Book
from surelabels.chains import Chain, size, with_reader, with_rule, with_wear, with_window
from surelabels.counting import numbers
from surelabels.errors import BadNumber, NotPlain, TooWide
from surelabels.readers import Reader, near, strict
from surelabels.ruleforms import many_let
from surelabels.rules import Rule, all_texts, lengths, sums
from surelabels.wears import Wear, flips, rare, strokes
from surelabels.windows import Window, middle, same
from tests.helpers import Case, rows, things
from tests.test_chains import EVEN, chain, sized
from tests.test_prices import far_chain
from tests.test_standings import no_text
from tests.told import STAY, label_of, lets, outcome_of, prices_of_rows, some_chains, some_plain_wear

NO_PLAIN = Wear((STAY + ((0, 1, 1, 0), (0, 1, 2, 0)),))


def plain_chains(many, seed, widths=(2, 2, 3)):
    """Return chains of chance with plain wears, the same ones each time."""
    chance = random.Random(seed)
    return [with_wear(made, some_plain_wear(chance)) for made in some_chains(many, seed, widths)]


def numbers_as_told(made, length, most):
    """Return the numbers of a chain by all texts of the length and all rows to which their labels can be worn."""
    found = [[0, 0, 0] for _ in range(most + 1)]
    for text in map("".join, itertools.product(made.book.signs, repeat=length)):
        if lets(made.rule, text):
            for worn, price in prices_of_rows(made.wear, label_of(made.book, text)).items():
                if price <= most:
                    found[price][("right", "none", "wrong").index(outcome_of(made, text, worn))] += 1
    return [tuple(row) for row in found]


def times(one, other):
    """Return the product of two lists of numbers by price, for the prices of the first one."""
    return [sum(one[at] * other[price - at] for at in range(price + 1) if price - at < len(other))
            for price in range(len(one))]


def by_cells(width, price=1):
    """Return the numbers by price of all rows to which a row of this width can be worn, cell by cell at one price."""
    found = [0] * (width * price + 1)
    for many in range(width + 1):
        found[many * price] += math.comb(width, many)
    return found


def read_as(made, printed, marks):
    """Return the numbers by price of the worn rows of a mark's pattern that are read as one of some marks."""
    found = [0] * 7
    for worn, price in prices_of_rows(made.wear, made.book.pattern(printed)).items():
        if made.reader.marks.get(worn) in marks:
            found[price] += 1
    return found


def numbers_by_blocks(made, length, most):
    """Return the numbers of a chain with all texts, the wear flips(1, 1) and a window of radius 0, block by block."""
    signs, width = made.book.signs, made.book.width
    begun = times([1] + [0] * most, read_as(made, "start", ["start"]))
    every = times([1] + [0] * most, by_cells(width))
    right, ahead, read = begun, begun, [0] * (most + 1)

    def summed(printed, marks):
        return [sum(column) for column in zip(*(read_as(made, mark, marks) for mark in printed))]

    for at in range(length):
        rest = times(ahead, summed(signs, ["stop"]))
        for _ in range(length - at - 1):
            rest = [len(signs) * number for number in times(rest, by_cells(width))]
        read = [one + other for one, other in zip(read, times(rest, by_cells(width)))]
        ahead = times(ahead, summed(signs, signs))
        right = times(right, [sum(column) for column in zip(*(read_as(made, sign, [sign]) for sign in signs))])
        every = [len(signs) * number for number in times(every, by_cells(width))]
    read = [one + other for one, other in zip(read, times(ahead, read_as(made, "stop", ["stop"])))]
    right = times(right, read_as(made, "stop", ["stop"]))
    every = times(every, by_cells(width))
    return [(one, all_of - some, some - one) for one, some, all_of in zip(right, read, every)]


class TestNumbers(Case):

    def test_by_hand(self):
        # The label of the empty text is 1 1 1 0 0 1: it is read if no cell is changed.
        self.equal(numbers(chain(), 0, 2), [(1, 0, 0), (0, 6, 0), (0, 15, 0)])
        # One text, b, of which one cell made light is the stop: behind it the empty text was read.
        self.equal(numbers(chain(), 1, 1), [(1, 0, 0), (0, 8, 1)])
        # aa and bb are let, and each sign can become the stop: then nothing is read, a or b, and a alone is not let.
        self.equal(numbers(chain(), 2, 1), [(2, 0, 0), (0, 21, 3)])
        self.equal(numbers(chain=chain(rule=all_texts(("a", "b"))), most=1, length=1), [(2, 0, 0), (0, 16, 2)])

    def test_against_laying_out_all_of_them(self):
        met = {"right": 0, "none": 0, "wrong": 0}
        radiuses = {}
        for place, made in enumerate(plain_chains(160, 201)):
            for length in range(3 if made.book.width == 2 else 2):
                most = (place + length) % 6
                found = numbers(made, length, most)
                self.equal(found, numbers_as_told(made, length, most))
                for what, many in zip(met, zip(*found)):
                    met[what] += sum(many) > 0
            radiuses[made.window.radius] = True
        self.assertEqual(sorted(radiuses), [0, 1, 2, 3])
        self.assertGreater(min(met.values()), 25)

    def test_readers_of_both_kinds_and_makers_of_wears(self):
        one = Book({"a": (0, 1, 1), "b": (1, 0, 0)}, (1, 1, 0), (0, 0, 1))
        for rule in (EVEN, all_texts(("a", "b")), no_text(), lengths(("a", "b"), 1, 1),
                     sums(("a", "b"), (1, 2), (1,), 3)):
            for reader in (strict(one), near(one, 1), near(one, 3)):
                for wear in (flips(1, 1), flips(0, 2), rare(1, 2, 1), rare(2, 0, 3)):
                    for window in (same(), middle(1)):
                        made = Chain(one, rule, wear, window, reader)
                        self.equal(numbers(made, 2, 4), numbers_as_told(made, 2, 4))

    def test_longer_texts(self):
        for made in plain_chains(12, 202, (2,)):
            self.equal(numbers(made, 4, 3), numbers_as_told(made, 4, 3))

    def test_the_rest_of_a_label_that_is_read_early_is_worn_too(self):
        made = chain(rule=all_texts(("a", "b")))
        # In aab the first a becomes the stop at the price 1, and each of the nine cells behind it may be worn.
        self.equal(numbers(made, 3, 2), numbers_as_told(made, 3, 2))
        self.assertGreater(numbers(made, 3, 2)[2][2], numbers(made, 1, 2)[2][2])

    def test_a_rule_that_lets_no_text_of_the_length(self):
        self.equal(numbers(chain(rule=no_text()), 3, 2), [(0, 0, 0)] * 3)
        self.equal(numbers(chain(rule=lengths(("a", "b"), 2, 3)), 1, 1), [(0, 0, 0)] * 2)
        self.equal(numbers(chain(rule=lengths(("a", "b"), 2, 3)), 40, 0), [(0, 0, 0)])

    def test_price_0(self):
        self.equal(numbers(chain(wear=flips(0, 5)), 0, 0), numbers_as_told(chain(wear=flips(0, 5)), 0, 0))
        self.equal(numbers(chain(wear=flips(0, 0)), 1, 0), numbers_as_told(chain(wear=flips(0, 0)), 1, 0))
        self.equal(numbers(chain(), 0, 0), [(1, 0, 0)])

    def test_prices_above_the_most(self):
        made = chain(wear=flips(10 ** 39, 21))
        self.equal(numbers(made, 1, 20), [(1, 0, 0)] + [(0, 0, 0)] * 20)
        self.equal(numbers(chain(wear=Wear((STAY,))), 2, 3), [(2, 0, 0)] + [(0, 0, 0)] * 3)
        for wear in (flips(10 ** 39, 3), flips(3, 10 ** 39), flips(4, 3), flips(3, 5)):
            for radius in (1, 3):
                made = chain(wear=wear, window=Window(radius, [0, 1] * 4 ** radius))
                self.equal(numbers(made, 1, 3), numbers_as_told(made, 1, 3))

    def test_great_numbers(self):
        for most in (0, 20):
            for made in (far_chain(0), far_chain(1), with_reader(far_chain(0), Reader(6, {
                    row: ("start", "stop", "a", "b", None)[sum(row) % 5] for row in rows(6) if sum(row) % 5 != 4}))):
                for length in (0, 1, 7, 40):
                    self.equal(numbers(made, length, most), numbers_by_blocks(made, length, most))
        found = numbers(far_chain(1), 40, 20)
        self.equal(found[0], (2 ** 40, 0, 0))
        # Each of 42 blocks may have one cell changed, and be read as it was printed.
        self.equal([row[0] for row in found], [2 ** 40 * math.comb(42, price) * 6 ** price for price in range(21)])
        self.assertGreater(found[20][2], 10 ** 30)

    def test_all_rows_at_no_price(self):
        made = with_wear(far_chain(1), flips(0, 0))
        self.equal(sum(numbers(made, 40, 0)[0]), 2 ** 40 * 2 ** 252)

    def test_each_list_is_new(self):
        numbers(chain(), 1, 1).clear()
        self.equal(len(numbers(chain(), 1, 1)), 2)

    def test_the_same_call_gives_the_same(self):
        for made in plain_chains(10, 203):
            self.equal(numbers(made, 3, 5), numbers(made, 3, 5))


class TestErrors(Case):

    def test_wears_that_are_not_plain(self):
        for wear in (NO_PLAIN, strokes(1, 2), Wear((STAY + STAY,)), Wear((STAY + ((1, 1, 0, 0),),))):
            self.raises(NotPlain(), numbers, chain(wear=wear), 1, 1)
        self.raises(NotPlain(), numbers, chain(wear=strokes(1, 1)), 1, 1)
        for wear in (flips(0, 0), rare(1, 1, 5), Wear((STAY,) * 6)):
            self.equal(len(numbers(chain(wear=wear), 1, 1)), 2)

    def test_wrong_lengths(self):
        for thing in [thing for thing in things() if not (type(thing) is int and 0 <= thing <= 40)] + [41, -1, True]:
            self.raises(BadNumber("length"), numbers, chain(), thing, 1)
        self.equal(numbers(chain(), 40, 0), [(2 ** 39, 0, 0)])

    def test_wrong_prices(self):
        for thing in [thing for thing in things() if not (type(thing) is int and 0 <= thing <= 20)] + [21, -1, False]:
            self.raises(BadNumber("most"), numbers, chain(), 1, thing)
        self.equal(len(numbers(chain(), 1, 20)), 21)

    def test_just_2000_and_above(self):
        for made in (sized(4, 0, 5, 5), sized(2, 0, 5, 10), sized(2, 2, 5, 5)):
            self.equal(size(made), 2000)
            for length in (10, 11):
                self.equal(numbers(made, length, 0), numbers_as_told(made, length, 0))
                self.equal(sum(numbers(made, length, 0)[0]), int(length == 10))
        for made in (sized(2, 0, 3, 13), sized(2, 0, 4, 12), sized(6, 3, 4, 1), sized(6, 3, 6, 40)):
            self.assertGreater(size(made), 2000)
            self.raises(TooWide(), numbers, made, 5, 0)
        self.equal(size(sized(2, 0, 3, 13)), 2028)

    def test_order(self):
        wide = sized(6, 3, 6, 40)
        unplain = with_wear(wide, NO_PLAIN)
        self.raises(NotPlain(), numbers, unplain, 41, 21)
        self.raises(NotPlain(), numbers, unplain, "a", None)
        self.raises(BadNumber("length"), numbers, wide, 41, 21)
        self.raises(BadNumber("most"), numbers, wide, 40, 21)
        self.raises(TooWide(), numbers, wide, 40, 20)
        self.raises(NotPlain(), numbers, unplain, 40, 20)


class TestFacts(Case):

    def test_windows_and_readers_do_not_change_the_sums(self):
        for made in plain_chains(25, 204):
            wanted = [sum(row) for row in numbers(made, 3, 6)]
            for other in (with_window(made, same()), with_window(made, middle(2)), with_reader(made, strict(made.book)),
                          with_reader(made, Reader(made.book.width, {}))):
                self.equal([sum(row) for row in numbers(other, 3, 6)], wanted)

    def test_the_ways_to_choose_cells(self):
        for made in plain_chains(25, 205, (2, 3, 4)):
            flat = with_wear(made, flips(1, 1))
            for length in (0, 1, 6, 40):
                cells = (length + 2) * made.book.width
                many = many_let(made.rule, length)
                self.equal([sum(row) for row in numbers(flat, length, 4)],
                           [many * math.comb(cells, price) for price in range(5)])

    def test_a_rule_with_many_states(self):
        made = with_rule(far_chain(1), Rule(("a", "b"), [[(k + 1) % 5, (k + 2) % 5] for k in range(5)], (0, 3)))
        found = numbers(made, 12, 8)
        many = many_let(made.rule, 12)
        self.equal([sum(row) for row in found], [many * math.comb(84, price) for price in range(9)])
        self.equal([row[0] for row in found], [many * math.comb(14, price) * 6 ** price for price in range(9)])

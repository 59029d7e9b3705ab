"""Tests of surelabels.mending: points 12.1 and 12.2."""

import itertools
import random

from surelabels.books import Book, label
from surelabels.chains import Chain, with_rule, with_wear
from surelabels.errors import BadNumber, BadRow, TooMany
from surelabels.mending import is_one, mended, prices_of
from surelabels.readers import Reader, near, strict
from surelabels.rules import Rule, all_texts, lengths, sums
from surelabels.wears import Wear, flips, price_of, rare, strokes
from surelabels.windows import darkest, middle, same
from tests.helpers import Case, rows, things
from tests.test_cells import not_rows
from tests.test_chains import EVEN, chain
from tests.test_prices import far_chain
from tests.test_standings import no_text, trap
from tests.told import STAY, label_of, lets, prices_of_rows, some_chains

DIGITS = tuple("0123456789")


def prices_as_told(made, worn):
    """Return all pairs (price, text) of a worn row, by all texts of its length."""
    length = len(worn) // made.book.width - 2
    found = []
    for text in map("".join, itertools.product(made.book.signs, repeat=length)):
        if lets(made.rule, text):
            price = price_of(made.wear, label_of(made.book, text), worn)
            if price is not None:
                found.append((price, text))
    return sorted(found)


def least_of(pairs):
    """Return the least price of some pairs and its texts, None for no pairs."""
    return (pairs[0][0], [text for price, text in pairs if price == pairs[0][0]]) if pairs else None


def some_scan(made, signs, chance):
    """Return a row of chance of the length of labels of this many signs; often a worn one of a label."""
    if chance.random() < 0.3:
        return tuple(chance.randint(0, 1) for _ in range((signs + 2) * made.book.width))
    row = label_of(made.book, "".join(chance.choice(made.book.signs) for _ in range(signs)))
    return chance.choice(sorted(prices_of_rows(made.wear, row)))


def digits_chain(count, wear=None, rule=None):
    """Return a chain of a book of ten digits, or fewer, whose patterns have just three dark cells of six."""
    taken = [row for row in rows(6) if sum(row) == 3]
    made = Book(dict(zip(DIGITS[:count], taken)), (1,) * 6, (0,) * 6)
    return Chain(made, rule or all_texts(DIGITS[:count]), wear or flips(1, 1), same(), strict(made))


def branching(many):
    """Return a chain that lets just the first `many` texts of five digits, whose labels can be any row at no price."""
    last = [int(digit) for digit in f"{many - 1:05d}"]
    # State k: the first k digits are those of the last text; k + 5: they are ahead of them; 11: no such text.
    moves = [[place + 6 if digit < last[place] else place + 1 if digit == last[place] and place < 4
              else 10 if digit == last[place] else 11 for digit in range(10)] for place in range(5)]
    moves += [[state + 1] * 10 for state in range(5, 10)] + [[11] * 10, [11] * 10]
    return digits_chain(10, flips(0, 0), Rule(DIGITS, moves, (10,)))


def wrong_rows(made):
    """Return what is no row that a label can have."""
    width = made.book.width
    no_lengths = (0, 1, width, 2 * width - 1, 2 * width + 1, 3 * width + 1)
    return not_rows() + [(cell,) * length for length in no_lengths for cell in (0, 1)]


class TestPricesOf(Case):

    def test_by_hand(self):
        made = chain()
        self.equal(prices_of(made, (1, 1, 1, 0, 0, 1), 0), [(0, "")])
        self.equal(prices_of(made, (1, 1, 1, 1, 0, 1, 0, 0, 1), 0), [(0, "b")])
        self.equal(prices_of(made, (1, 1, 1, 0, 1, 1, 0, 0, 1), 9), [(2, "b")])
        free = chain(rule=all_texts(("a", "b")))
        self.equal(prices_of(most=3, worn=(1, 1, 1, 0, 1, 1, 1, 0, 1, 0, 0, 1), chain=free),
                   [(0, "ab"), (2, "aa"), (2, "bb")])

    def test_against_trying_all_texts(self):
        chance = random.Random(211)
        some = 0
        for made in some_chains(120, 212):
            for signs in range(4 if made.book.width == 2 else 3):
                worn = some_scan(made, signs, chance)
                wanted = prices_as_told(made, worn)
                for most in (0, 1, 2, 4, 10 ** 39):
                    self.equal(prices_of(made, worn, most), [pair for pair in wanted if pair[0] <= most])
                some += len(wanted) > 2
        self.assertGreater(some, 25)

    def test_makers_of_wears_and_rules(self):
        chance = random.Random(213)
        one = Book({"a": (0, 1, 1), "b": (1, 0, 0), "c": (0, 1, 0)}, (1, 1, 0), (0, 0, 1))
        for wear in (flips(1, 2), strokes(2, 3), rare(1, 1, 2), rare(3, 0, 5),
                     Wear([[(0, 0, 0, (k + 1) % 6), (1, 1, 0, (k + 5) % 6), (1, 0, k, k), (0, 1, 2, 5 - k)]
                           for k in range(6)])):
            for rule in (all_texts(("a", "b", "c")), sums(("a", "b", "c"), (0, 1, 2), (1, 2), 3),
                         lengths(("a", "b", "c"), 2, 3), trap(("a", "b", "c")), no_text(("a", "b", "c"))):
                made = Chain(one, rule, wear, same(), strict(one))
                for signs in (0, 1, 2, 3):
                    worn = some_scan(made, signs, chance)
                    wanted = prices_as_told(made, worn)
                    for most in (1, 3, 5):
                        self.equal(prices_of(made, worn, most), [pair for pair in wanted if pair[0] <= most])

    def test_most_just_at_and_below_a_price(self):
        made = chain(wear=flips(7, 10 ** 38), rule=all_texts(("a", "b")))
        row = (1, 1, 1, 1, 1, 1, 0, 0, 1)
        self.equal(prices_of(made, row, 7), [(7, "a"), (7, "b")])
        self.equal(prices_of(made, row, 6), [])
        row = (0, 1, 1, 0, 1, 1, 0, 0, 1)
        self.equal(prices_of(made, row, 10 ** 38), [(10 ** 38, "a")])
        self.equal(prices_of(made, row, 10 ** 38 - 1), [])
        self.equal(prices_of(made, row, 2 * 10 ** 38 + 6), [(10 ** 38, "a")])
        self.equal(prices_of(made, row, 2 * 10 ** 38 + 7), [(10 ** 38, "a"), (2 * 10 ** 38 + 7, "b")])
        self.equal(prices_of(made, row, 10 ** 39), [(10 ** 38, "a"), (2 * 10 ** 38 + 7, "b")])

    def test_rows_to_which_no_label_can_be_worn(self):
        still = chain(wear=Wear((STAY,)), rule=all_texts(("a", "b")))
        self.equal(prices_of(still, (1, 1, 1, 0, 0, 0, 0, 0, 1), 10 ** 39), [])
        self.equal(prices_of(still, (1, 1, 0, 0, 0, 1), 10 ** 39), [])
        self.equal(prices_of(still, (1, 1, 1, 0, 1, 1), 10 ** 39), [])
        self.equal(prices_of(still, (1, 1, 1, 0, 1, 1, 0, 0, 1), 10 ** 39), [(0, "a")])

    def test_windows_and_readers_do_not_count(self):
        row = (1, 1, 1, 1, 0, 0, 1, 0, 1, 0, 0, 1)
        wanted = prices_of(chain(), row, 5)
        self.assertGreater(len(wanted), 1)
        for window in (middle(1), darkest(3)):
            for reader in (Reader(3, {}), near(chain().book, 2)):
                self.equal(prices_of(chain(window=window, reader=reader), row, 5), wanted)

    def test_500_and_501(self):
        self.equal([price for price, _ in prices_of(branching(500), (0, 1) * 21, 0)], [0] * 500)
        self.equal(prices_of(branching(500), (1,) * 42, 3)[-1], (0, "00499"))
        self.raises(TooMany(500), prices_of, branching(501), (0, 1) * 21, 0)
        self.raises(TooMany(500), prices_of, branching(99999), (0, 1) * 21, 0)
        self.equal(prices_of(branching(7), (0, 1) * 21, 0), [(0, f"0000{k}") for k in range(7)])

    def test_many_texts_of_which_few_are_cheap(self):
        made = digits_chain(10)
        row = label(made.book, "31415")
        self.equal(prices_of(made, row, 1), [(0, "31415")])
        found = prices_of(made, row, 2)
        self.equal(len(found), 1 + sum(1 for place in "31415" for sign in DIGITS
                                       if sum(one != other for one, other in zip(made.book.patterns[place],
                                                                                 made.book.patterns[sign])) == 2))
        self.raises(TooMany(500), prices_of, made, row, 30)
        self.raises(TooMany(500), prices_of, made, label(made.book, "31415" * 12), 10 ** 39)

    def test_great_most_with_few_texts(self):
        made = with_rule(far_chain(1), lengths(("a", "b"), 0, 8))
        self.equal(len(prices_of(made, (0,) * 60, 10 ** 39)), 256)
        self.raises(TooMany(500), prices_of, with_rule(made, lengths(("a", "b"), 0, 9)), (0,) * 66, 10 ** 39)

    def test_wrong_rows(self):
        for made in (chain(), far_chain(1)):
            for thing in wrong_rows(made):
                self.raises(BadRow("worn"), prices_of, made, thing, 1)
        self.equal(prices_of(chain(), (0,) * 6, 0), [])

    def test_wrong_prices(self):
        for thing in [thing for thing in things() if not (type(thing) is int and thing >= 0)] + [True, -1]:
            self.raises(BadNumber("most"), prices_of, chain(), (1, 1, 1, 0, 0, 1), thing)

    def test_order(self):
        self.raises(BadRow("worn"), prices_of, branching(501), (1,) * 41, -1)
        self.raises(BadNumber("most"), prices_of, branching(501), (1,) * 42, -1)
        self.raises(TooMany(500), prices_of, branching(501), (1,) * 42, 0)

    def test_each_list_is_new(self):
        prices_of(chain(), (1, 1, 1, 0, 0, 1), 0).clear()
        self.equal(prices_of(chain(), (1, 1, 1, 0, 0, 1), 0), [(0, "")])


class TestMended(Case):

    def test_by_hand(self):
        self.equal(mended(chain(), (1, 1, 1, 0, 0, 1)), (0, [""]))
        self.equal(mended(worn=(1, 1, 1, 0, 1, 1, 0, 0, 1), chain=chain()), (2, ["b"]))
        free = chain(rule=all_texts(("a", "b")))
        self.equal(mended(free, (1, 1, 1, 1, 1, 1, 0, 0, 1)), (1, ["a", "b"]))
        self.assertIs(is_one(free, (1, 1, 1, 1, 1, 1, 0, 0, 1)), False)
        self.assertIs(is_one(worn=(1, 1, 1, 1, 0, 1, 0, 0, 1), chain=free), True)

    def test_against_prices_of(self):
        chance = random.Random(214)
        met = {}
        for made in some_chains(150, 215):
            for signs in range(4 if made.book.width == 2 else 3):
                worn = some_scan(made, signs, chance)
                wanted = least_of(prices_as_told(made, worn))
                self.equal(mended(made, worn), wanted)
                self.assertIs(is_one(made, worn), wanted is not None and len(wanted[1]) == 1)
                many = min(len(wanted[1]), 2) if wanted else 0
                met[many] = met.get(many, 0) + 1
                if wanted:
                    self.equal([text for _, text in prices_of(made, worn, wanted[0])], wanted[1])
                    if wanted[0] > 0:
                        self.equal(prices_of(made, worn, wanted[0] - 1), [])
        self.assertGreater(min(met.values()), 20)

    def test_none(self):
        still = chain(wear=Wear((STAY,)))
        for made, row in ((still, (0,) * 9), (still, (1, 1, 1, 0, 1, 1, 0, 0, 1)), (chain(rule=no_text()), (0,) * 9),
                          (chain(rule=lengths(("a", "b"), 2, 3)), (1, 1, 1, 0, 0, 1)),
                          (chain(rule=lengths(("a", "b"), 0, 1)), (1, 1, 1) + (0, 1, 1) * 2 + (0, 0, 1)),
                          (chain(wear=strokes(1, 1)), (0, 1, 1, 0, 0, 1))):
            self.equal(mended(made, row), None)
            self.assertIs(is_one(made, row), False)
            self.equal(prices_of(made, row, 10 ** 39), [])

    def test_500_and_501(self):
        row = (1, 0) * 21
        self.equal(mended(branching(500), row), (0, [f"{k:05d}" for k in range(500)]))
        self.raises(TooMany(500), mended, branching(501), row)
        for many in (500, 501, 5000, 2):
            self.assertIs(is_one(branching(many), row), False)
        self.assertIs(is_one(branching(1), row), True)
        self.equal(mended(branching(1), row), (0, ["00000"]))

    def test_many_dearer_texts(self):
        made = digits_chain(10)
        for text in ("", "0", "9876543210" * 6):
            self.equal(mended(made, label(made.book, text)), (0, [text]))
            self.assertIs(is_one(made, label(made.book, text)), True)

    def test_rows_of_400_cells_and_more(self):
        chance = random.Random(216)
        text = "".join(chance.choice(DIGITS) for _ in range(70))
        mixed = Rule(DIGITS, [[(7 * state + 3 * sign + 1) % 40 for sign in range(10)] for state in range(40)],
                     tuple(range(0, 40, 3)))
        for wear in (flips(1, 2), strokes(3, 5), rare(2, 2, 5)):
            for rule in (all_texts(DIGITS), mixed):
                made = digits_chain(10, wear, rule)
                row = list(label(made.book, text))
                for place in range(30, 400, 60):
                    row[place] = 1
                found = mended(made, tuple(row))
                if found is not None:
                    for one in found[1]:
                        self.equal(price_of(wear, label(made.book, one), tuple(row)), found[0])
                        self.assertTrue(rule.lets(one))
                if rule.lets(text):
                    self.assertLessEqual(found[0], price_of(wear, label(made.book, text), tuple(row)))
                self.assertIs(is_one(made, tuple(row)), found is not None and len(found[1]) == 1)

    def test_texts_of_198_signs(self):
        narrow = Book({"a": (0, 1), "b": (1, 0)}, (1, 1), (0, 0))
        made = Chain(narrow, all_texts(("a", "b")), flips(1, 1), same(), strict(narrow))
        text = "abbab" * 39 + "aba"
        row = label(narrow, text)
        self.equal(len(row), 400)
        self.equal(mended(made, row), (0, [text]))
        # Each of three signs can be an a as well as a b.
        worn = list(row)
        for place in (50, 200, 390):
            worn[place] = worn[place + 1] = 1
        found = mended(made, tuple(worn))
        self.equal((found[0], len(found[1])), (3, 8))
        self.assertIn(text, found[1])
        self.equal(found[1], sorted(found[1]))
        for place in range(10, 28, 2):
            worn[place] = worn[place + 1] = 1
        self.raises(TooMany(500), mended, made, tuple(worn))
        self.assertIs(is_one(made, tuple(worn)), False)

    def test_wrong_rows(self):
        for made in (chain(), branching(501)):
            for thing in wrong_rows(made):
                self.raises(BadRow("worn"), mended, made, thing)
                self.raises(BadRow("worn"), is_one, made, thing)

    def test_each_list_is_new(self):
        mended(chain(), (1, 1, 1, 0, 0, 1))[1].clear()
        self.equal(mended(chain(), (1, 1, 1, 0, 0, 1)), (0, [""]))

    def test_the_chain_stays_as_it_is(self):
        made = with_wear(chain(), strokes(2, 2))
        before = (made.book.patterns, made.rule.moves, made.wear.moves)
        mended(made, (1,) * 15)
        self.equal((made.book.patterns, made.rule.moves, made.wear.moves), before)
        self.assertTrue(made == chain(wear=strokes(2, 2), rule=EVEN))

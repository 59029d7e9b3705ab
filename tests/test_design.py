"""Tests of surelabels.design: points 13.1, 13.3 and 13.4, and the facts of 13.2."""

import itertools
import random

from surelabels.books import Book
from surelabels.chains import Chain, with_reader, with_rule, with_wear, with_window
from surelabels.design import cheapest_windows, gap, spread_rows, strongest
from surelabels.errors import BadKind, BadList, BadNumber, BadRow, BadWear, TooWide
from surelabels.prices import least_price
from surelabels.readers import Reader, near, strict
from surelabels.ruleforms import both
from surelabels.rules import all_texts, lengths, sums
from surelabels.wears import Wear, flips, rare, strokes
from surelabels.windows import Window, behind, darkest, lightest, middle, same
from tests.helpers import Case, nested, rows, things
from tests.test_cells import not_rows
from tests.test_chains import EVEN, chain, sized
from tests.test_prices import above, far_chain, wrong_kinds
from tests.test_standings import no_text
from tests.told import KINDS, STAY, prices_of_rows, some_chains, some_wear

STILL = Wear((STAY,))
WIDE = sized(6, 3, 6, 40)


def strongest_as_told(chains, kind):
    """Return the first of some chains whose least price is the greatest, with its price."""
    best = None
    for index, made in enumerate(chains):
        price = least_price(made, kind)
        if best is None or above(price, best[0]):
            best = (price, index)
    return best


class TestStrongest(Case):

    def test_by_hand(self):
        chains = [chain(), chain(wear=flips(3, 2)), chain(wear=flips(2, 3)), chain(wear=flips(2, 2))]
        self.equal(strongest(chains, "none"), (2, 1))
        self.equal(strongest(kind="wrong", chains=tuple(chains)), (3, 2))
        self.equal(strongest([chain()], "wrong"), (1, 0))

    def test_none_is_greater_than_all(self):
        still = chain(wear=STILL)
        dear = chain(wear=flips(10 ** 39, 10 ** 39))
        self.equal(strongest([dear, still, still], "none"), (None, 1))
        self.equal(strongest([still, dear], "none"), (None, 0))
        self.equal(strongest([chain(), dear], "none"), (10 ** 39, 1))
        self.equal(strongest([still] * 8, "unlike"), (None, 0))

    def test_a_rule_that_lets_no_text_is_never_read_wrong(self):
        self.equal(strongest([chain(), chain(rule=no_text()), chain(rule=EVEN)], "wrong"), (None, 1))

    def test_equal_prices(self):
        self.equal(strongest([chain()] * 8, "none"), (1, 0))
        self.equal(strongest([chain(), chain(wear=flips(2, 2)), chain(wear=flips(2, 2))], "none"), (2, 1))

    def test_against_least_price(self):
        chance = random.Random(241)
        chains = some_chains(60, 242)
        met = {}
        for many in range(1, 9):
            for _ in range(6):
                taken = [chance.choice(chains) for _ in range(many)]
                for kind in KINDS:
                    found = strongest(chance.choice((list, tuple))(taken), kind)
                    self.equal(found, strongest_as_told(taken, kind))
                    met[found[1]] = True
        self.assertGreater(len(met), 4)

    def test_wrong_lists(self):
        for thing in things() + [[], (), [chain()] * 9, (chain(),) * 9, chain(), {0: chain()}, "chain", None]:
            if not (isinstance(thing, (list, tuple)) and 1 <= len(thing) <= 8):
                self.raises(BadList(-1), strongest, thing, "none")

    def test_the_first_item_that_is_no_chain(self):
        for index in range(8):
            for thing in things():
                if type(thing) is not Chain:
                    self.raises(BadList(index), strongest, [chain()] * index + [thing] + [None] * (7 - index), "none")
        self.raises(BadList(0), strongest, [Chain], "none")
        self.raises(BadList(-1), strongest, [None] * 9, "none")

    def test_wrong_kinds(self):
        for thing in wrong_kinds():
            self.raises(BadKind(), strongest, [chain()], thing)

    def test_order(self):
        self.raises(BadList(1), strongest, [WIDE, None], "right")
        self.raises(BadKind(), strongest, [WIDE], "right")
        for place in range(8):
            chains = [chain(wear=STILL)] * place + [WIDE] + [chain()] * (7 - place)
            self.raises(TooWide(), strongest, chains, "none")
        self.equal(strongest([sized(3, 2, 1, 25)], "none")[1], 0)


class TestFacts(Case):

    def test_a_rule_that_lets_less(self):
        shown = 0
        for made in some_chains(40, 243):
            signs = made.book.signs
            for less, more in ((made.rule, all_texts(signs)), (both(made.rule, lengths(signs, 1, 2)), made.rule),
                               (sums(signs, tuple(range(len(signs))), (1,), 4), sums(signs, tuple(range(len(signs))),
                                                                                     (1,), 2))):
                one, other = least_price(with_rule(made, less), "wrong"), least_price(with_rule(made, more), "wrong")
                self.assertFalse(above(other, one))
                shown += above(one, other)
        self.assertGreater(shown, 10)

    def test_a_wear_that_costs_more(self):
        shown = 0
        for made in some_chains(40, 244):
            for dear, cheap in ((flips(2, 3), flips(1, 3)), (rare(1, 2, 2), flips(1, 2)),
                                (strokes(2, 1), strokes(2, 3)), (strokes(4, 2), strokes(3, 2)),
                                (STILL, flips(9, 9)), (rare(1, 1, 2), rare(1, 1, 1))):
                for kind in KINDS:
                    one, other = least_price(with_wear(made, dear), kind), least_price(with_wear(made, cheap), kind)
                    self.assertFalse(above(other, one))
                    shown += above(one, other)
        self.assertGreater(shown, 50)


def choices_of(offers, widest):
    """List the triples (cost, choice, window) of all choices, in the order of the document."""
    indexes = range(len(offers))
    choices = [()] + [(one,) for one in indexes] + list(itertools.product(indexes, repeat=2))
    found = []
    for choice in choices:
        if sum(offers[index][0].radius for index in choice) <= min(3, widest):
            window = same()
            for index in choice:
                window = behind(window, offers[index][0])
            found.append((sum(offers[index][1] for index in choice), len(choice), choice, window))
    return sorted(found, key=lambda entry: entry[:3])


def cheapest_as_told(made, offers, kind, price):
    """Return the first choice that will do."""
    for cost, _, choice, window in choices_of(offers, made.book.width):
        found = least_price(with_window(made, window), kind)
        if found is None or found >= price:
            return cost, choice
    return None


class TestCheapestWindows(Case):

    def test_by_hand(self):
        made = far_chain(0)
        # The label is read if no cell is changed; what is swept by the middle one is not the label.
        offers = [(middle(1), 1), (same(), 0)]
        self.equal(cheapest_windows(made, offers, "none", 1), (0, ()))
        self.equal(cheapest_windows(made, offers, "none", 2), None)
        self.equal(cheapest_windows(price=0, kind="none", offers=offers, chain=made), (0, ()))
        self.equal(cheapest_windows(with_window(made, darkest(3)), offers, "wrong", 3), (0, ()))

    def test_the_empty_choice(self):
        # The chain's own window does not count.
        still = chain(wear=STILL)
        for window in (same(), darkest(3), Window(0, (0, 0))):
            for price in (0, 1, 10 ** 39):
                self.equal(cheapest_windows(with_window(still, window), [(middle(1), 0)], "none", price), (0, ()))

    def test_the_order_of_choices(self):
        # A window that makes all cells light: then nothing is read, and no case is wrong.
        light = Window(0, (0, 0))
        made = chain()
        self.equal(cheapest_windows(made, [(light, 3), (light, 2)], "wrong", 9), (2, (1,)))
        self.equal(cheapest_windows(made, [(light, 2), (light, 2)], "wrong", 9), (2, (0,)))
        self.equal(cheapest_windows(made, [(same(), 0), (light, 2), (same(), 1)], "wrong", 9), (2, (1,)))
        # Turned twice the cells are as they were, and turned once nothing is read.
        turn = Window(0, (1, 0))
        self.equal(cheapest_windows(made, [(turn, 4)], "wrong", 2), (4, (0,)))
        self.equal(cheapest_windows(made, [(turn, 0)], "wrong", 1), (0, ()))
        self.equal(cheapest_windows(made, [(turn, 0)], "wrong", 2), (0, (0,)))

    def test_two_windows(self):
        # What one of two windows alone does not do: each leaves some rows that can be read.
        ahead = Window(1, [cells[0] for cells in rows(3)])
        back = Window(1, [cells[2] for cells in rows(3)])
        made = chain(rule=all_texts(("a", "b")), wear=flips(5, 7))
        wanted = [least_price(with_window(made, window), "none") for window in (same(), ahead, back)]
        self.equal(wanted, [5, 0, 0])
        shifted = with_reader(made, Reader(3, {(1, 1, 0): "start", (1, 1, 1): "a", (0, 1, 1): "b", (0, 0, 0): "stop"}))
        for price in range(9):
            for kind in KINDS:
                for offers in ([(ahead, 1), (back, 2)], [(back, 0), (ahead, 0)], [(ahead, 1), (ahead, 1), (back, 0)]):
                    for one in (made, shifted):
                        self.equal(cheapest_windows(one, offers, kind, price),
                                   cheapest_as_told(one, offers, kind, price))

    def test_a_window_twice(self):
        shift = Window(1, [cells[0] for cells in rows(3)])
        one = Book({"a": (0, 1, 0, 0)}, (1, 0, 0, 0), (1, 1, 0, 0))
        # Behind two shifts each pattern stands two places later, and only so it is read.
        reader = Reader(4, {(0, 0, 1, 0): "start", (0, 0, 0, 1): "a", (0, 0, 1, 1): "stop"})
        made = Chain(one, all_texts(("a",)), STILL, same(), reader)
        self.equal(cheapest_windows(made, [(shift, 3)], "none", 1), (6, (0, 0)))
        self.equal(cheapest_windows(made, [(shift, 3), (shift, 1)], "none", 1), (2, (1, 1)))
        self.equal(cheapest_windows(made, [(shift, 3), (shift, 3)], "none", 1), (6, (0, 0)))
        self.equal(cheapest_windows(made, [(same(), 0), (shift, 3), (shift, 4)], "none", 1), (6, (1, 1)))

    def test_the_order_of_two_windows(self):
        # Dark cells spread first and then shrunk: gaps are closed; the other way round single cells go.
        one = Book({"a": (0, 0, 1, 0)}, (0, 1, 0, 1), (1, 1, 1, 0))
        for reader in (strict(one), near(one, 1)):
            made = Chain(one, all_texts(("a",)), flips(1, 2), same(), reader)
            for offers in ([(darkest(1), 2), (lightest(1), 2)], [(lightest(1), 0), (darkest(1), 0)]):
                for kind in KINDS:
                    for price in range(5):
                        self.equal(cheapest_windows(made, offers, kind, price),
                                   cheapest_as_told(made, offers, kind, price))

    def test_against_all_choices(self):
        chance = random.Random(245)
        met = {}
        for made in some_chains(70, 246, (2, 2, 3)):
            offers = [(chance.choice((same(), middle(1), darkest(1), lightest(1), middle(2), Window(0, (1, 0)),
                                      made.window)), chance.choice((0, 0, 1, 2, 5)))
                      for _ in range(chance.randint(1, 4))]
            kind, price = chance.choice(KINDS), chance.choice((0, 1, 2, 3, 10))
            found = cheapest_windows(made, offers, kind, price)
            self.equal(found, cheapest_as_told(made, offers, kind, price))
            met[found if found is None else len(found[1])] = True
        self.assertEqual(set(met), {None, 0, 1, 2})

    def test_choices_left_out_for_their_radius(self):
        narrow = Book({"a": (0, 1)}, (1, 1), (0, 0))
        dark = {radius: Window(radius, [1] * 2 ** (2 * radius + 1)) for radius in range(4)}
        made = Chain(narrow, all_texts(("a",)), flips(1, 1), same(), strict(narrow))
        # A window that makes all dark would do for "wrong", but not with a radius above the width.
        self.equal(cheapest_windows(made, [(dark[3], 0)], "wrong", 9), None)
        self.equal(cheapest_windows(made, [(dark[2], 0)], "wrong", 9), (0, (0,)))
        self.equal(cheapest_windows(made, [(dark[3], 0), (dark[2], 5)], "wrong", 9), (5, (1,)))
        wide = far_chain(0)
        self.equal(cheapest_windows(wide, [(dark[3], 4), (dark[1], 5)], "wrong", 9), (4, (0,)))
        # Turned in the outer cells' way: two of radius 2 would have the radius 4.
        turn = Window(2, [1 - cells[2] for cells in rows(5)])
        twice = Chain(wide.book, wide.rule, wide.wear, wide.window,
                      Reader(6, {tuple(1 - cell for cell in row): mark for row, mark in wide.reader.marks.items()}))
        self.equal(cheapest_windows(wide, [(turn, 0)], "none", 1), (0, ()))
        self.equal(cheapest_windows(twice, [(turn, 7)], "none", 1), (7, (0,)))
        self.equal(cheapest_windows(twice, [(middle(2), 0), (turn, 7)], "none", 1), (7, (1,)))

    def test_lists_and_tuples(self):
        made = chain(wear=flips(2, 3))
        for offers in ([[middle(1), 1]], ([middle(1), 1],), ((middle(1), 1),), [(middle(1), 1)]):
            self.equal(cheapest_windows(made, offers, "none", 2), (0, ()))

    def test_what_was_passed_stays_as_it_is(self):
        offers = [[middle(1), 1], [same(), 0]]
        cheapest_windows(chain(), offers, "none", 5)
        self.equal([[window.radius, cost] for window, cost in offers], [[1, 1], [0, 0]])

    def test_wrong_lists(self):
        pair = (same(), 1)
        for thing in things() + [[], (), [pair] * 5, (pair,) * 5, {0: pair}]:
            if not (isinstance(thing, (list, tuple)) and 1 <= len(thing) <= 4):
                self.raises(BadList(-1), cheapest_windows, chain(), thing, "none", 1)
        self.equal(cheapest_windows(chain(), [pair] * 4, "none", 2), None)

    def test_wrong_offers(self):
        wrong = things() + [(same(), -1), (same(), True), (same(), "1"), (same(),), (same(), 1, 1), (1, same()),
                            (Window, 1), (None, 1), [same(), None], {same: 1}, same()]
        for thing in wrong:
            for index in range(4):
                offers = [(same(), 0)] * index + [thing] + [None] * (3 - index)
                self.raises(BadList(index), cheapest_windows, chain(), offers, "none", 1)

    def test_wrong_kinds_and_prices(self):
        for thing in wrong_kinds():
            self.raises(BadKind(), cheapest_windows, chain(), [(same(), 1)], thing, 1)
        for thing in [thing for thing in things() if not (type(thing) is int and thing >= 0)] + [True, -1]:
            self.raises(BadNumber("price"), cheapest_windows, chain(), [(same(), 1)], "none", thing)

    def test_order(self):
        self.raises(BadList(-1), cheapest_windows, WIDE, [], "right", -1)
        self.raises(BadList(0), cheapest_windows, WIDE, [None], "right", -1)
        self.raises(BadKind(), cheapest_windows, WIDE, [(same(), 1)], "right", -1)
        self.raises(BadNumber("price"), cheapest_windows, WIDE, [(same(), 1)], "none", -1)
        self.raises(TooWide(), cheapest_windows, WIDE, [(same(), 1)], "none", 0)

    def test_too_wide_for_choices_that_are_looked_at(self):
        # With a window of the radius 1 the size is 20480, with one of the radius 0 half of it.
        made = with_window(sized(5, 0, 5, 8), middle(3))
        light = Window(0, (0, 0))
        self.equal(cheapest_windows(made, [(middle(1), 1)], "wrong", 0), (0, ()))
        # Nothing is ever worn here, so that the empty choice will do.
        self.equal(cheapest_windows(made, [(middle(1), 0), (light, 0)], "wrong", 5), (0, ()))
        bad = with_wear(made, Wear((STAY + ((0, 1, 0, 0), (1, 0, 0, 0)),) * 5))
        self.equal(least_price(with_window(bad, same()), "none"), 0)
        self.equal(least_price(with_window(bad, same()), "unlike"), 0)
        # The light window will do for "unlike": it is ahead of the wide one, or behind it.
        self.equal(least_price(with_window(bad, light), "unlike"), None)
        self.equal(cheapest_windows(bad, [(middle(1), 2), (light, 1)], "unlike", 1), (1, (1,)))
        self.raises(TooWide(), cheapest_windows, bad, [(middle(1), 1), (light, 1)], "unlike", 1)
        self.equal(cheapest_windows(bad, [(light, 1), (middle(1), 1)], "unlike", 1), (1, (0,)))
        self.raises(TooWide(), cheapest_windows, bad, [(middle(1), 1), (light, 1)], "none", 1)
        # A choice that is left out for its radius is not looked at.
        self.equal(cheapest_windows(bad, [(light, 1), (same(), 0)], "none", 1), None)


def gap_as_told(wear, one, other):
    """Return the gap of two rows, by all rows that they can be worn to."""
    ones, others = prices_of_rows(wear, one), prices_of_rows(wear, other)
    return min((price + others[worn] for worn, price in ones.items() if worn in others), default=None)


def spread_as_told(given, count, wear):
    """Return the greatest gap and the first indexes, by all choices."""
    found = []
    for chosen in itertools.combinations(range(len(given)), count):
        gaps = [gap_as_told(wear, given[one], given[other]) for one, other in itertools.combinations(chosen, 2)]
        numbers = [price for price in gaps if price is not None]
        least = min(numbers, default=None)
        found.append((0 if least is None else 1, 0 if least is None else -least, chosen, least))
    best = min(found)
    return best[3], best[2]


class TestGap(Case):

    def test_by_hand(self):
        self.equal(gap(flips(1, 1), (0, 1, 1), (1, 0, 1)), 2)
        self.equal(gap(flips(3, 10), (0, 1, 1), (1, 0, 1)), 6)
        self.equal(gap(other=(0, 0, 0, 1), one=(1, 1, 1, 1), wear=strokes(5, 3)), 5)
        self.equal(gap(strokes(5, 2), (0, 0, 0, 1), (1, 1, 1, 1)), 10)
        self.equal(gap(STILL, (0, 1), (0, 0)), None)
        self.equal(gap(STILL, (), ()), 0)
        self.equal(gap(rare(1, 1, 2), (0, 0, 0), (1, 1, 1)), None)

    def test_against_all_rows(self):
        chance = random.Random(247)
        met = {}
        for _ in range(250):
            wear = some_wear(chance, 4)
            length = chance.randint(0, 6)
            one, other = (tuple(chance.randint(0, 1) for _ in range(length)) for _ in range(2))
            found = gap(wear, one, other)
            self.equal(found, gap_as_told(wear, one, other))
            self.equal(gap(wear, other, one), found)
            met[found] = True
        self.assertGreater(len(met), 5)
        self.assertIn(None, met)

    def test_a_row_with_itself(self):
        chance = random.Random(248)
        for _ in range(20):
            wear = some_wear(chance, 4)
            for row in rows(4):
                self.equal(gap(wear, row, row), 0)

    def test_long_rows(self):
        for length in (30, 400):
            self.equal(gap(flips(2, 3), (0,) * length, (0, 1) * (length // 2)), length)
            self.equal(gap(strokes(7, 5), (0,) * length, (1,) * length), 7 * ((length + 4) // 5))
        self.equal(gap(flips(10 ** 39, 10 ** 39 + 1), (0,) * 400, (1,) * 400), 400 * 10 ** 39)

    def test_errors_in_order(self):
        for thing in things():
            if type(thing) is not Wear:
                self.raises(BadWear(-1, -1), gap, thing, None, (0,))
        self.raises(BadWear(-1, -1), gap, Wear, (0,), (0,))
        for thing in not_rows():
            self.raises(BadRow("one"), gap, STILL, thing, None)
            self.raises(BadRow("other"), gap, STILL, (0, 1), thing)
        self.raises(BadRow("length"), gap, STILL, (0,), (0, 1))
        self.raises(BadRow("length"), gap, STILL, (), (1,))


class TestSpreadRows(Case):

    def test_by_hand(self):
        given = [(0, 0, 0), (0, 0, 1), (0, 1, 1), (1, 1, 1)]
        self.equal(spread_rows(given, 2, flips(1, 1)), (3, (0, 3)))
        self.equal(spread_rows(given, 3, flips(1, 1)), (1, (0, 1, 2)))
        self.equal(spread_rows(given, 4, flips(1, 1)), (1, (0, 1, 2, 3)))
        self.equal(spread_rows(wear=STILL, count=3, rows=tuple(given)), (None, (0, 1, 2)))
        # No row has a price for two of three cells that all differ, if each change keeps the next two.
        self.equal(spread_rows(given, 2, rare(1, 1, 2)), (None, (0, 3)))

    def test_against_all_choices(self):
        chance = random.Random(249)
        met = {}
        for _ in range(160):
            length = chance.randint(1, 6)
            many = min(chance.randint(2, 10), 2 ** length)
            given = chance.sample(rows(length), many)
            wear = some_wear(chance, 4)
            for count in {2, many, chance.randint(2, many)}:
                found = spread_rows(given, count, wear)
                self.equal(found, spread_as_told(given, count, wear))
                met[found[0]] = True
        self.assertGreater(len(met), 5)
        self.assertIn(None, met)

    def test_two_rows_and_ten(self):
        self.equal(spread_rows([(0,), (1,)], 2, flips(4, 5)), (4, (0, 1)))
        self.equal(spread_rows([(1,), (0,)], 2, strokes(4, 5)), (4, (0, 1)))
        given = rows(6)[7:64:6]
        self.equal(len(given), 10)
        for count in (2, 5, 9, 10):
            for wear in (flips(2, 3), rare(1, 1, 2)):
                self.equal(spread_rows(given, count, wear), spread_as_told(given, count, wear))

    def test_none_is_greater_than_all_numbers(self):
        # Of these only the first and the last one have no worn row in common, and it is not the first choice.
        wear = Wear((STAY + ((0, 1, 1, 1),), STAY))
        given = [(0, 0, 0), (0, 0, 1), (0, 1, 0), (1, 1, 1)]
        wanted = spread_as_told(given, 2, wear)
        self.equal(wanted[0], None)
        self.equal(spread_rows(given, 2, wear), wanted)

    def test_wrong_lists(self):
        eleven = rows(4)[:11]
        for thing in things() + [[], (), [(0,)], ((0, 1),), eleven, tuple(eleven), {0: (0,), 1: (1,)}]:
            if not (isinstance(thing, (list, tuple)) and 2 <= len(thing) <= 10):
                self.raises(BadList(-1), spread_rows, thing, 2, STILL)
        self.equal(spread_rows(eleven[:10], 2, STILL), (None, (0, 1)))

    def test_wrong_items(self):
        good = rows(4)[:10]
        for index in range(10):
            for thing in not_rows():
                self.raises(BadList(index), spread_rows, good[:index] + [thing] + [None] * (9 - index), 2, STILL)
        for index in range(1, 10):
            for thing in ((0, 0, 0), (0, 0, 0, 0, 0), ()):
                self.raises(BadList(index), spread_rows, good[:index] + [thing] + good[index + 1:], 2, STILL)
            for earlier in range(index):
                self.raises(BadList(index), spread_rows, good[:index] + [good[earlier]] + good[index + 1:], 2, STILL)
        self.raises(BadList(1), spread_rows, [(0, 1), (0,), (0, 1)], 2, STILL)
        self.raises(BadList(0), spread_rows, [nested((0,), 29, lambda x: [x]), (0,)], 2, STILL)

    def test_lengths_from_1_to_6(self):
        for length in range(1, 7):
            self.equal(spread_rows([(0,) * length, (1,) * length], 2, flips(1, 1)), (length, (0, 1)))
        self.raises(BadList(0), spread_rows, [(0,) * 7, (1,) * 7], 2, flips(1, 1))
        self.raises(BadList(0), spread_rows, [(), (0,)], 2, flips(1, 1))

    def test_wrong_counts_and_wears(self):
        given = rows(2)
        for thing in [thing for thing in things() if not (type(thing) is int and 2 <= thing <= 4)] + [5, 1, True]:
            self.raises(BadNumber("count"), spread_rows, given, thing, STILL)
        for thing in things() + [Wear]:
            if type(thing) is not Wear:
                self.raises(BadWear(-1, -1), spread_rows, given, 2, thing)

    def test_order(self):
        self.raises(BadList(-1), spread_rows, [(0,)], 0, None)
        self.raises(BadList(1), spread_rows, [(0,), (0,)], 0, None)
        self.raises(BadNumber("count"), spread_rows, [(0,), (1,)], 3, None)
        self.raises(BadWear(-1, -1), spread_rows, [(0,), (1,)], 2, None)

    def test_what_was_passed_stays_as_it_is(self):
        given = rows(3)
        spread_rows(given, 3, flips(1, 2))
        self.equal(given, rows(3))

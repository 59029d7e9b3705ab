"""Tests of points 14.1 and 14.2 where far more texts could fit than can be tried one by one."""

import itertools
import random
from unittest import mock

from surelabels.books import Book, label
from surelabels.chains import Chain, with_rule, with_wear
from surelabels.errors import NoText, TooMany
from surelabels.readers import strict
from surelabels.rules import Rule, all_texts, lengths, sums
from surelabels.scans import fitting, least_scans, sure_signs
from surelabels.wears import Wear, flips, price_of, strokes
from surelabels.windows import same
from tests.helpers import Case, within
from tests.test_scans import fitting_as_told, least_scans_as_told, some_scans, sure_as_told
from tests.told import some_chains

# No single answer may take longer.
SECONDS = 8

FIRST = ((0, 0, 0, 1), (1, 1, 0, 1), (0, 0, 1, 2), (1, 1, 1, 2))
CHEAP = ((0, 0, 0, 1), (0, 1, 1, 1), (1, 0, 1, 1), (1, 1, 0, 1))
DEAR = ((0, 0, 0, 2), (0, 1, 2, 2), (1, 0, 50, 2), (1, 1, 0, 2))

PAIR = Book({"a": (0, 0), "b": (0, 1)}, (1, 0), (1, 1))
APART = Book({"a": (0, 1), "b": (1, 0)}, (0, 0), (1, 1))
TEN = Book({sign: tuple(int(digit) for digit in f"{number:04b}") for number, sign in enumerate("0123456789")},
           (1, 1, 1, 0), (1, 1, 1, 1))


def made_of(wear, book=PAIR, rule=None):
    """Return a chain of a wear and a book, with all texts if no rule is told."""
    return Chain(book, rule or all_texts(book.signs), wear, same(), strict(book))


def chooser():
    """Return the chain whose wear goes on, from the first cell, cheaply or dearly."""
    return made_of(Wear((FIRST, CHEAP, DEAR)))


def moods():
    """Return the chain whose wear is, for the whole label, one that darkens cheaply or one that lightens cheaply."""
    return made_of(Wear(((*FIRST, (0, 0, 0, 2), (1, 1, 0, 2)), ((0, 0, 0, 1), (0, 1, 1, 1), (1, 0, 3, 1), (1, 1, 0, 1)),
                         ((0, 0, 0, 2), (0, 1, 4, 2), (1, 0, 1, 2), (1, 1, 0, 2)))))


def alike(places, price=1):
    """Return a wear whose standing places come and go, but where each changed cell costs the same."""
    return Wear([[(0, 0, 0, (k + 1) % places), (1, 1, 0, (k + 2) % places), (0, 1, price, (k * k + 1) % places),
                  (1, 0, price, k), (1, 0, price + 1, 0)] for k in range(places)])


def wild(places, chance):
    """Return a wear of chance, some of whose moves are dear or lead to any standing place."""
    return Wear([[(0, 0, 0, chance.randrange(places)), (1, 1, 0, chance.randrange(places))]
                 + [(chance.randint(0, 1), chance.randint(0, 1), chance.choice((0, 1, 1, 2, 3, 7, 60)),
                     chance.randrange(places)) for _ in range(chance.randint(4, 12))] for _ in range(places)])


def by_bits(many):
    """Return five unlike texts of so many signs: text i has the sign b at place k if bit i of k is set."""
    return ["".join("ab"[k >> i & 1] for k in range(many)) for i in range(5)]


def scans_of(texts, book=PAIR):
    """Return the labels of some texts, as scans."""
    return [label(book, text) for text in texts]


def own_price(made, text, scans):
    """Return the sum of the prices of a text's label for some scans."""
    return sum(price_of(made.wear, label(made.book, text), scan) for scan in scans)


def most_have(texts):
    """Return the text of the sign that most of some texts of a and b have at each place, and how many more have it."""
    counts = [sum(sign == "b" for sign in column) for column in zip(*texts)]
    return "".join("ab"[2 * count > len(texts)] for count in counts), [abs(len(texts) - 2 * count) for count in counts]


def changed(text, places):
    """Return a text of a and b with the other sign at some places."""
    return "".join("ba"["ab".index(sign)] if place in places else sign for place, sign in enumerate(text))


def cheap_texts(texts, price, spare):
    """List, ascending, the pairs (dearer by, text) up to a spare price, where each changed cell costs a price.

    An odd number of texts of a and b were scanned: a text costs least if most of them agree with it everywhere.
    """
    one, more = most_have(texts)
    found = [(0, ())]
    for place, number in enumerate(more):
        found += [(dearer + number * price, places + (place,)) for dearer, places in found
                  if dearer + number * price <= spare]
    return sorted((dearer, changed(one, places)) for dearer, places in found)


def moods_as_told(texts, most):
    """List, ascending, the pairs (price, text) of at most a price, by all choices of a mood for each scanned text."""
    found = {}
    for costs in itertools.product(({"a": 1, "b": 3}, {"a": 4, "b": 1}), repeat=len(texts)):
        beginnings = [(0, "")]
        columns = [{sign: sum(cost[sign] for cost, other in zip(costs, column) if other != sign) for sign in "ab"}
                   for column in zip(*texts)]
        left = [sum(min(column.values()) for column in columns[place:]) for place in range(len(columns) + 1)]
        for place, column in enumerate(columns):
            beginnings = [(price + column[sign], text + sign) for price, text in beginnings for sign in "ab"
                          if price + column[sign] + left[place + 1] <= most]
        for price, text in beginnings:
            found[text] = min(price, found.get(text, price))
    return sorted((price, text) for text, price in found.items())


def least_as_told(made, scans):
    """Return the least price of a text for some scans, by the standing places of all scans, cell by cell."""
    costs = {(0, (0,) * len(scans)): 0}
    marks = ["start"] + [None] * (len(scans[0]) // made.book.width - 2) + ["stop"]
    for index, mark in enumerate(marks):
        behind = {}
        for sign in [mark] if mark else made.book.signs:
            for at, row in worn_as_told(made, costs, sign, [scan[index * made.book.width:] for scan in scans]).items():
                behind[at] = min(row, behind.get(at, row))
        costs = behind
    return min((price for (state, _), price in costs.items() if state in made.rule.good), default=None)


def worn_as_told(made, costs, mark, scans):
    """Return the least prices behind a mark, by the rule's state and the standing places of all scans."""
    if mark not in ("start", "stop"):
        place = made.rule.signs.index(mark)
        ahead, costs = costs, {}
        for (state, at), price in ahead.items():
            key = (made.rule.moves[state][place], at)
            costs[key] = min(price, costs.get(key, price))
    for index, cell in enumerate(made.book.pattern(mark)):
        for number, scan in enumerate(scans):
            behind = {}
            for (state, at), price in costs.items():
                for move in made.wear.moves[at[number]]:
                    if move[:2] == (cell, scan[index]):
                        key = (state, at[:number] + (move[3],) + at[number + 1:])
                        behind[key] = min(price + move[2], behind.get(key, price + move[2]))
            costs = behind
    return costs


class TestVeryManyTexts(Case):

    def quick(self, call, *args):
        """Return what a call returns, or the number of texts of its TooMany, within a few seconds."""
        with within(SECONDS):
            try:
                return call(*args)
            except TooMany as error:
                self.equal(error.most, 500)
                return TooMany

    def many(self, made, scans, most):
        """Check that fitting and sure_signs find too many texts."""
        self.assertIs(self.quick(fitting, made, scans, most), TooMany)
        self.assertIs(self.quick(sure_signs, made, scans, most), TooMany)

    def told(self, made, scans, most, wanted):
        """Check that fitting has these pairs, and sure_signs what their texts have in common."""
        self.equal(self.quick(fitting, made, scans, most), wanted)
        self.equal(self.quick(sure_signs, made, scans, most), sure_as_told(wanted))

    def test_all_texts_fit(self):
        for signs in (10, 30, 40, 58):
            scans = scans_of(by_bits(signs))
            for most in (10000, 10 ** 39, 5 * signs):
                self.many(chooser(), scans, most)
            for number in (1, 2, 3, 4):
                self.many(chooser(), scans[:number], 10000)
                self.many(chooser(), scans[-number:], 10000)

    def test_none_one_and_a_few(self):
        for signs, few in ((40, 25), (58, 39)):
            made, scans = chooser(), scans_of(by_bits(signs))
            least = least_as_told(made, scans)
            for most in (0, 1, least // 2, least - 1):
                self.told(made, scans, most, [])
            (pair,) = self.quick(fitting, made, scans, least)
            self.equal(pair[0], least)
            self.told(made, scans, least, [pair])
            found = self.quick(fitting, made, scans, least + 1)
            self.equal((len(found), found[0], found), (few, pair, sorted(found)))
            self.equal(found, [(own_price(made, text, scans), text) for _, text in found])
            self.told(made, scans, least + 1, found)
            self.many(made, scans, least + 4)

    def test_a_few_that_are_known(self):
        for signs, places in ((40, 1), (40, 3), (58, 1), (58, 2), (58, 6)):
            texts = by_bits(signs)
            made, scans = made_of(alike(places)), scans_of(texts)
            least = own_price(made, most_have(texts)[0], scans)
            self.told(made, scans, least - 1, [])
            for spare, many in enumerate((1, 25, 301) if signs == 40 else (1, 39)):
                wanted = [(least + dearer, text) for dearer, text in cheap_texts(texts, 1, spare)]
                self.equal(len(wanted), many)
                self.told(made, scans, least + spare, wanted)
            self.many(made, scans, least + 3)

    def test_two_to_four_scans(self):
        texts = by_bits(58)
        for number in (2, 4):
            # Where as many scans have one sign as the other, either costs as much.
            made, scans = made_of(alike(4)), scans_of(texts[:number])
            least = own_price(made, most_have(texts[:number])[0], scans)
            self.told(made, scans, least - 1, [])
            self.many(made, scans, least)
        made, scans = made_of(alike(4)), scans_of(texts[:3])
        least = own_price(made, most_have(texts[:3])[0], scans)
        for spare in (-1, 0, 1):
            self.told(made, scans, least + spare, [(least + dearer, text) for dearer, text in
                                                   cheap_texts(texts[:3], 1, spare) if dearer <= spare])
        self.many(made, scans, least + 2)

    def test_dear_moves(self):
        texts, price = by_bits(58), 10 ** 38
        made, scans = made_of(alike(3, price)), scans_of(texts)
        least = own_price(made, most_have(texts)[0], scans)
        self.told(made, scans, least - 1, [])
        self.told(made, scans, least + price - 1, [(least, most_have(texts)[0])])
        wanted = [(least + dearer, text) for dearer, text in cheap_texts(texts, price, price)]
        self.told(made, scans, least + price, wanted)
        self.many(made, scans, least + 2 * price)

    def test_moods(self):
        for signs, spares in ((40, (-1, 0, 1, 2, 4, 6)), (58, (-1, 0, 1, 2, 3, 4))):
            texts = by_bits(signs)
            made, scans = moods(), scans_of(texts)
            least = least_as_told(made, scans)
            for spare in spares:
                wanted = moods_as_told(texts, least + spare)
                self.told(made, scans, least + spare, wanted)
            self.assertGreater(len(wanted), 200)
            self.many(made, scans, least + 9)

    def test_scans_that_leave_some_places_open(self):
        # At the places where two scans differ, either sign costs as much.
        made = made_of(alike(5))
        for open_places, many in (((3,), 2), ((0, 20, 39), 8), (tuple(range(5, 13)), 256)):
            one = "ab" * 20
            scans = scans_of([one, changed(one, open_places)] * 2)
            least = 2 * len(open_places)
            choices = [places for count in range(9) for places in itertools.combinations(open_places, count)]
            wanted = sorted((least, changed(one, places)) for places in choices)
            self.equal(len(wanted), many)
            self.told(made, scans, least - 1, [])
            self.told(made, scans, least, wanted)
        self.many(made, scans_of([one, changed(one, range(9))] * 2), 18)

    def test_wears_of_chance(self):
        chance = random.Random(271)
        for number, places, signs in ((2, 6, 58), (2, 4, 40), (3, 3, 58), (3, 4, 40), (4, 2, 58), (5, 2, 58)):
            for kind in range(2):
                made = made_of(wild(places, chance))
                scans = [tuple(chance.randint(0, 1) for _ in range(2 * signs + 4)) for _ in range(number)]
                if kind:
                    scans = scans_of(["".join(chance.choice("ab") for _ in range(signs)) for _ in range(number)])
                least = least_as_told(made, scans)
                found = self.quick(fitting, made, scans, 10 ** 39 if least is None else least)
                if least is None:
                    self.equal(found, [])
                else:
                    self.equal(self.quick(fitting, made, scans, least - 1) if least else [], [])
                    self.assertTrue(found is TooMany or found)
                if found is not TooMany:
                    self.equal(found, [(own_price(made, text, scans), text) for _, text in found])
                    self.assertTrue(all(price == least for price, _ in found))

    def test_wears_of_chance_with_five_scans(self):
        chance = random.Random(272)
        for _ in range(3):
            made = made_of(wild(6, chance))
            texts = ["".join(chance.choice("ab") for _ in range(58)) for _ in range(5)]
            scans = scans_of(texts)
            self.many(made, scans, 10 ** 39)
            self.equal(self.quick(least_scans, made, scans[:1], texts[0]),
                       least_scans(made, scans[:1] * 5, texts[0]))
            for most in (0, 20, 40, 80):
                found = self.quick(fitting, made, scans, most)
                if found is not TooMany:
                    self.equal(found, [(own_price(made, text, scans), text) for _, text in found])
                    self.assertTrue(all(price <= most for price, _ in found))

    def test_scans_that_never_agree(self):
        # Each scan alone fits after each beginning, but the last sign of one is not that of the other.
        made = made_of(strokes(1, 1), APART)
        for signs in (10, 40, 58):
            one, other = [(0, 0) + (1, 1) * (signs - 1) + last + (1, 1) for last in ((0, 1), (1, 0))]
            for most in (signs + 1, 2 * signs + 1, 10 ** 39):
                self.told(made, [one, other], most, [])
                self.told(made, [one, one, other, one, one], most, [])
            self.many(made, [one, one], 10 ** 39)
            self.told(made, [one, one], 2 * signs - 3, [])
            self.equal(self.quick(least_scans, made, [one] * 5, "a" * signs), None)
            plain = (0, 0) + (0, 1) * signs + (1, 1)
            self.told(made, [one, plain, one], 10 ** 39, [(2 * signs - 2, "a" * signs)])
            self.equal(self.quick(least_scans, made, [one, one, plain, one, one], "a" * signs), (2,))

    def test_prices_above_those_of_one_scan(self):
        made = made_of(flips(1, 1), APART, lengths(("a", "b"), 9, 9))
        scans = scans_of(["abababaab", "babababba"] * 2, APART)
        self.many(made, scans, 36)
        self.told(made, scans, 35, [])
        made = with_rule(made, sums(("a", "b"), (0, 1), (1, 2), 4))
        wanted = fitting_as_told(made, scans)
        self.equal([len(wanted), {price for price, _ in wanted}], [128, {36}])
        for most in (36, 37, 100, 10 ** 39):
            self.told(made, scans, most, wanted)

    def test_rules_with_many_states(self):
        digits = random.Random(273)
        texts = ["".join(digits.choice("0123456789") for _ in range(58)) for _ in range(5)]
        scans = scans_of(texts, TEN)
        for rule in (sums(TEN.signs, tuple(range(10)), (1, 2, 3, 4), 9, 5), lengths(TEN.signs, 3, 30),
                     Rule(TEN.signs, [[(3 * k + j * j + 1) % 40 for j in range(10)] for k in range(40)], (7, 30))):
            least = least_as_told(made_of(alike(1), TEN, rule), scans)
            made = made_of(alike(3), TEN, rule)
            if least is None:
                self.told(made, scans, 10 ** 39, [])
            else:
                self.told(made, scans, least - 1, [])
                found = self.quick(fitting, made, scans, least)
                self.assertTrue(found is TooMany or {price for price, _ in found} == {least})
                self.many(made, scans, 10 ** 39)

    def test_rows_of_400_cells(self):
        digits = random.Random(274)
        book = Book({sign: tuple(digits.sample((0, 0, 0, 1, 1, 1), 6)) for sign in "a"} | {"b": (0,) * 6}, (1,) * 6,
                    (1,) * 5 + (0,))
        texts = ["".join(digits.choice("ab") for _ in range(64)) for _ in range(5)]
        made, scans = made_of(alike(6), book), scans_of(texts, book)
        least = own_price(made, most_have(texts)[0], scans)
        self.told(made, scans, least - 1, [])
        for spare in (0, 3):
            wanted = [(least + dearer, text) for dearer, text in cheap_texts(texts, 3, spare)]
            self.told(made, scans, least + spare, wanted)
        self.many(made, scans, 10 ** 39)

    def test_least_scans(self):
        for signs in (40, 58):
            texts = by_bits(signs)
            scans = scans_of(texts)
            for made in (made_of(alike(1)), made_of(alike(3)), made_of(alike(6, 7))):
                self.equal(self.quick(least_scans, made, scans, texts[3]), (3,))
                self.equal(self.quick(least_scans, made, scans, most_have(texts[1:4])[0]), (1, 2, 3))
                self.equal(self.quick(least_scans, made, scans, most_have(texts)[0]), (0, 1, 2, 3, 4))
                self.equal(self.quick(least_scans, made, scans, "a" * signs), None)
                self.equal(self.quick(least_scans, made, scans[2:], most_have(texts)[0]), None)

    def test_least_scans_of_the_chooser(self):
        for signs in (40, 58):
            made, texts = chooser(), by_bits(signs)
            scans = scans_of(texts)
            least = least_as_told(made, scans)
            ((_, one),) = self.quick(fitting, made, scans, least)
            for text in (one, texts[0], texts[4], "a" * signs, "b" * signs):
                told = self.quick(least_scans, made, scans, text)
                for chosen in [chosen for count in range(1, 6) for chosen in itertools.combinations(range(5), count)]:
                    taken = [scans[index] for index in chosen]
                    own = own_price(made, text, taken)
                    if self.quick(fitting, made, taken, own) == [(own, text)]:
                        self.equal(told, chosen)
                        break
                else:
                    self.equal(told, None)
            self.equal(self.quick(least_scans, made, scans, texts[2]), (2,))
            self.raises(NoText(), least_scans, made, scans, "a" * (signs - 1))

    def test_short_texts_against_trying_all(self):
        chance = random.Random(275)
        met = {0: 0, 1: 0, 500: 0, 1024: 0}
        for number in (2, 3, 4, 5):
            for places in (1, 2, 3, 6):
                made = made_of(wild(places, chance) if places > 1 else flips(2, 3))
                if chance.random() < 0.3:
                    made = with_rule(made, sums(("a", "b"), (1, 2), (1, 1, 2), 4, 1))
                scans = scans_of(["".join(chance.choice("ab") for _ in range(10)) for _ in range(number)])
                if chance.random() < 0.3:
                    scans[0] = tuple(chance.randint(0, 1) for _ in range(24))
                wanted = fitting_as_told(made, scans)
                prices = [price for price, _ in wanted]
                for index in {0, 1, 9, 99, 300, 499, 500, 1023} & set(range(len(wanted))):
                    for most in (prices[index] - 1, prices[index]):
                        fair = [pair for pair in wanted if pair[0] <= most]
                        if len(fair) > 500:
                            self.many(made, scans, most)
                        elif most >= 0:
                            self.told(made, scans, most, fair)
                        met[min(size for size in met if size >= len(fair))] += 1
        self.assertGreater(min(met.values()), 10, met)

    def test_short_texts_and_the_least_scans(self):
        chance = random.Random(276)
        met = {}
        for places in (1, 2, 3, 4, 5, 6):
            made = with_wear(chooser(), alike(places) if places % 2 else wild(places, chance))
            texts = ["".join(chance.choice("ab") for _ in range(10)) for _ in range(3)]
            scans = scans_of(texts)
            for text in texts[:1] + [most_have(texts)[0], "a" * 10]:
                if None not in [price_of(made.wear, label(PAIR, text), scan) for scan in scans]:
                    wanted = least_scans_as_told(made, scans, text)
                    self.equal(self.quick(least_scans, made, scans, text), wanted)
                    met[wanted and len(wanted)] = met.get(wanted and len(wanted), 0) + 1
        self.assertEqual({None, 1, 3} - set(met), set())


class TestTables(Case):
    """All of this is told by the tables, which else are made only for many texts."""

    def setUp(self):
        patch = mock.patch("surelabels.fits.MOST_TEXTS", 0)
        patch.start()
        self.addCleanup(patch.stop)

    def check(self, made, scans):
        """Check what fitting, sure_signs and least_scans tell, by all texts."""
        wanted = fitting_as_told(made, scans)
        for most in (0, 1, 2, 3, 5, 8, 13, 10 ** 39):
            fair = [pair for pair in wanted if pair[0] <= most]
            self.equal(fitting(made, scans, most), fair)
            self.equal(sure_signs(made, scans, most), sure_as_told(fair))
        for _, text in wanted[:1]:
            self.equal(least_scans(made, scans, text), least_scans_as_told(made, scans, text))
        return len(wanted)

    def test_chains_of_chance(self):
        chance = random.Random(281)
        met = []
        for made in some_chains(60, 282):
            for signs in range(4 if made.book.width == 2 else 3):
                met.append(self.check(made, some_scans(made, signs, chance.randint(2, 5), chance)))
        self.assertGreater(min(met.count(0), met.count(1), len(met) - met.count(0) - met.count(1)), 20)

    def test_wears_that_choose(self):
        chance = random.Random(283)
        for signs in (4, 5, 6):
            for number in (2, 3, 5):
                scans = scans_of(["".join(chance.choice("ab") for _ in range(signs)) for _ in range(number)])
                for made in (chooser(), moods(), made_of(wild(4, chance))):
                    self.check(made, scans)
                    self.check(with_rule(made, sums(("a", "b"), (1, 2), (1, 1, 2), 4, 1)), scans)

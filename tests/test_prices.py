"""Tests of surelabels.prices: points 8.3, 8.4, 9.5, 10.1, 10.2 and 10.5."""

import itertools

from surelabels.books import Book, label
from surelabels.chains import Chain, outcome, with_rule, with_wear
from surelabels.errors import BadKind, TooWide
from surelabels.prices import least_case, least_price, margin, sure
from surelabels.readers import Reader, near, strict
from surelabels.ruleforms import both
from surelabels.rules import Rule, all_texts, lengths, sums
from surelabels.standings import begins, ends, steps
from surelabels.wears import Wear, flips, price_of, rare, strokes
from surelabels.windows import Window, middle, same
from tests.helpers import Case, rows, things
from tests.test_books import book
from tests.test_chains import chain, ring, sized
from tests.test_standings import no_text, trap
from tests.told import (KINDS, STAY, cases_of, fewest_walked, kinds_of, label_of, least_walked, lets, prices_of_rows,
                        some_chains, text_read)


def wrong_kinds():
    """Return things that are no kinds."""
    return [thing for thing in things() if not (type(thing) is str and thing in KINDS)] + ["right", "non", "None"]


def short(made, low=0, high=2):
    """Return a chain whose rule lets only the texts of low to high signs of those that it let."""
    return with_rule(made, both(made.rule, lengths(made.book.signs, low, high)))


def far_chain(most, dark=1, light=1):
    """Return a chain of a book all of whose patterns differ at three places or six."""
    patterns = {"a": (0, 0, 0, 1, 1, 1), "b": (1, 1, 1, 0, 0, 0)}
    made = Book(patterns, (0, 0, 1, 0, 0, 1), (1, 1, 0, 1, 1, 0))
    return Chain(made, all_texts(("a", "b")), flips(dark, light), same(), near(made, most))


class TestLeastPrice(Case):

    def test_by_hand(self):
        for kind in KINDS:
            self.equal(least_price(chain(), kind), 1)
        self.equal(least_price(kind="none", chain=chain(wear=flips(3, 2))), 2)
        # A sign for another one: from 0 1 1 to 1 0 1 one cell becomes dark and one light.
        self.equal(least_price(chain(wear=flips(3, 2), reader=Reader(3, {**strict(book()).marks, (0, 0, 1): "a"})),
                               "wrong"), None)

    def test_a_far_book(self):
        self.equal([least_price(far_chain(0), kind) for kind in KINDS], [1, 3, 3])
        self.equal([least_price(far_chain(1), kind) for kind in KINDS], [2, 2, 2])
        self.equal([least_price(far_chain(0, 5, 7), kind) for kind in KINDS], [5, 17, 17])

    def test_against_all_texts_and_worn_rows(self):
        met = set()
        for made in some_chains(40, 91, (2,), places=2) + some_chains(8, 92, (3,), signs=2, places=2):
            made = short(made, high=2 if made.book.width == 2 else 1)
            wanted = cases_of(made, 2)
            for kind in KINDS:
                price = wanted[kind][0] if kind in wanted else None
                met.add((kind, price is None))
                self.equal(least_price(made, kind), price)
        self.equal(sorted(met), [(kind, none) for kind in sorted(KINDS) for none in (False, True)])

    def test_against_walking_begins_steps_and_ends(self):
        longer = 0
        for made in some_chains(60, 93):
            wanted = least_walked(made)
            for kind in KINDS:
                self.equal(least_price(made, kind), wanted.get(kind))
            if made.book.width == 2:
                few = cases_of(made, 2)
                longer += any(kind not in few or few[kind][0] > wanted[kind] for kind in wanted)
        self.assertGreater(longer, 0, "no case needs more than two signs")

    def test_walking_with_what_the_package_tells(self):
        for made in some_chains(12, 94, (2,)):
            far = {standing: price for price, standing in begins(made)}
            waiting = list(far)
            while waiting:
                here = waiting.pop()
                for _, price, then in steps(made, here):
                    if then not in far or far[here] + price < far[then]:
                        far[then] = far[here] + price
                        waiting.append(then)
            least = {}
            for here in far:
                for what, price in ends(made, here):
                    least[what] = min(far[here] + price, least.get(what, far[here] + price))
            for kind in KINDS:
                self.equal(least_price(made, kind), least.get(kind))

    def test_no_case_of_a_kind(self):
        still = chain(wear=Wear((STAY,)))
        for kind in KINDS:
            self.equal(least_price(still, kind), None)
            self.equal(least_price(chain(rule=no_text()), kind), None)
        # Nothing is ever read, or just nothing that is unlike.
        deaf = chain(reader=Reader(3, {}))
        self.equal([least_price(deaf, kind) for kind in KINDS], [0, None, None])
        one = chain(rule=lengths(("a", "b"), 0, 0))
        self.equal([least_price(one, kind) for kind in KINDS], [1, None, None])

    def test_a_price_of_0(self):
        self.equal([least_price(chain(wear=flips(0, 0)), kind) for kind in KINDS], [0, 0, 0])
        self.equal([least_price(chain(wear=flips(0, 4)), kind) for kind in KINDS], [0, 4, 4])
        turned = chain(window=Window(0, (1, 0)), wear=Wear((STAY,)))
        self.equal([least_price(turned, kind) for kind in KINDS], [0, None, None])

    def test_great_prices(self):
        many = 10 ** 39
        self.equal(least_price(chain(wear=flips(many, many + 1)), "none"), many)

    def test_a_text_that_the_rule_does_not_let_is_none(self):
        odd = Rule(("a", "b"), ((1, 0), (0, 1)), (1,))
        # To wear one a away costs more than to wear any cell: but the empty text that is read then is not let.
        made = chain(rule=both(odd, lengths(("a", "b"), 1, 1)))
        self.equal(outcome(made, "a", (1, 1, 1, 0, 0, 1, 0, 0, 1)), "none")
        self.equal([least_price(made, kind) for kind in KINDS], [1, None, 1])

    def test_wrong_kind(self):
        for thing in wrong_kinds():
            self.raises(BadKind(), least_price, chain(), thing)
            self.raises(BadKind(), least_case, chain(), thing)


class TestLeastCase(Case):

    def fits(self, made, kind, case, price):
        """Check that a case has a price, and that its parts fit one another."""
        self.equal(type(case), tuple)
        self.equal(len(case), 3)
        got, text, worn = case
        self.equal(got, price)
        self.assertTrue(lets(made.rule, text))
        self.equal(price_of(made.wear, label(made.book, text), worn), price)
        self.assertIn(kind, kinds_of(made, text, worn))
        if kind != "unlike":
            self.equal(outcome(made, text, worn), kind)
        else:
            self.assertNotIn(text_read(made, worn), (None, text))

    def test_by_hand(self):
        self.equal(least_case(kind="none", chain=chain(wear=flips(2, 1)))[:2], (1, ""))
        one = Book({"a": (0, 1)}, (1, 1), (0, 0))
        made = Chain(one, all_texts(("a",)), Wear(((*STAY, (1, 0, 3, 0)),)), same(), strict(one))
        # The first a becomes a stop: of "a", for the empty text.
        self.equal(least_case(made, "wrong"), (3, "a", (1, 1, 0, 0, 0, 0)))
        self.equal(least_case(made, "unlike"), (3, "a", (1, 1, 0, 0, 0, 0)))

    def test_none(self):
        for kind in KINDS:
            self.equal(least_case(chain(wear=Wear((STAY,))), kind), None)
            self.equal(least_case(chain(rule=no_text()), kind), None)

    def test_parts_fit_one_another(self):
        for made in some_chains(80, 95):
            for kind in KINDS:
                price = least_price(made, kind)
                case = least_case(made, kind)
                if price is None:
                    self.equal(case, None)
                else:
                    self.fits(made, kind, case, price)

    def test_fewest_signs(self):
        numbers = set()
        for made in some_chains(80, 96, (2,)):
            for kind in KINDS:
                case = least_case(made, kind)
                if case is not None and 0 < len(case[1]) <= 4:
                    numbers.add(len(case[1]))
                    fewer = cases_of(short(made, 0, len(case[1]) - 1), len(case[1]) - 1)
                    self.assertGreater(fewer.get(kind, (case[0] + 1, 0))[0], case[0])
        self.assertGreaterEqual(len(numbers), 3)

    def test_fewest_signs_of_texts_of_two_signs_at_most(self):
        for made in some_chains(30, 97, (2,), places=2):
            made = short(made)
            wanted = cases_of(made, 2)
            for kind in KINDS:
                case = least_case(made, kind)
                self.equal(None if case is None else (case[0], len(case[1])), wanted.get(kind))

    def test_fewest_signs_by_begins_steps_and_ends(self):
        # Among these chains are such where the fewest signs end a label early, and such where they do not.
        chains = some_chains(90, 106) + some_chains(120, 202, (2,), states=9, places=2)[27::10]
        for made in chains:
            wanted = fewest_walked(made)
            for kind in KINDS:
                case = least_case(made, kind)
                self.equal(None if case is None else (case[0], len(case[1])), wanted.get(kind))

    def test_a_short_text_that_costs_early(self):
        # A c is always misread, but no stop is read as one without a price; nor is an a, for the same price.
        one = Book({"a": (0, 1, 0), "b": (1, 1, 0), "c": (1, 0, 1)}, (1, 1, 1), (0, 0, 1))
        reader = Reader(3, {(1, 1, 1): "start", (0, 1, 0): "a", (1, 1, 0): "b", (1, 0, 1): "b", (0, 0, 0): "stop"})
        # The texts ab and ccc.
        rule = Rule(("a", "b", "c"), ((1, 5, 2), (5, 4, 5), (5, 5, 3), (5, 5, 4), (5, 5, 5), (5, 5, 5)), (4,))
        made = Chain(one, rule, Wear(((*STAY, (1, 0, 3, 0)),)), same(), reader)
        self.equal(least_case(made, "unlike"), (3, "ab", (1, 1, 1, 0, 0, 0, 1, 1, 0, 0, 0, 1)))

    def test_the_rest_of_a_label_where_signs_lead_nowhere(self):
        # Behind any two signs: any number of a, one b, and then two a or two b.
        one = Book({"a": (0, 1), "b": (1, 0)}, (1, 1), (0, 0))
        rule = Rule(("a", "b"), ((1, 1), (2, 2), (2, 3), (4, 5), (6, 7), (7, 6), (7, 7), (7, 7)), (6,))
        made = Chain(one, rule, Wear(((*STAY, (1, 0, 1, 0)),)), same(), strict(one))
        for kind in ("none", "unlike"):
            case = least_case(made, kind)
            self.fits(made, kind, case, 1)
            self.equal(len(case[1]), 5)
            self.assertIn(case[1][2:], ("baa", "bbb"))

    def test_the_rest_of_a_label_that_ends_early_is_as_short_as_can_be(self):
        one = Book({"a": (0, 1), "b": (1, 0)}, (1, 1), (0, 0))
        # From the start only an a leads on, then three signs of any kind, and five where the first of them is an a.
        rule = Rule(("a", "b"), ((1, 8), (2, 5), (3, 3), (4, 4), (6, 6), (6, 6), (7, 7), (8, 8), (8, 8)), (7,))
        made = Chain(one, rule, Wear(((*STAY, (1, 0, 1, 0)),)), same(), strict(one))
        for kind in ("none", "unlike"):
            case = least_case(made, kind)
            self.fits(made, kind, case, 1)
            self.equal((case[1][:2], len(case[1])), ("ab", 4))
        self.equal(least_case(made, "wrong"), None)

    def test_cases_that_need_many_signs(self):
        one = Book({"a": (0, 1)}, (1, 1), (0, 0))
        for many in (1, 2, 7, 25):
            made = Chain(one, ring(many), flips(2, 3), same(), strict(one))
            # A multiple of many signs is let: nothing shorter than the whole ring can be read as another text.
            case = least_case(made, "wrong")
            self.fits(made, "wrong", case, 3)
            self.equal(len(case[1]), many)
            late = Chain(one, ring(many, (many - 1,)), flips(2, 3), same(), strict(one))
            self.equal(len(least_case(late, "none")[1]), many - 1)

    def test_a_rule_that_notices_a_single_misread_sign(self):
        # With one a that is read as a b the count is one off: it takes nine of them, or a stop where the count fits.
        one = Book({"a": (0, 0, 1), "b": (0, 1, 0)}, (1, 1, 1), (1, 0, 0))
        count = Rule(("a", "b"), tuple(((state + 1) % 9, state) for state in range(9)), (0,))
        made = Chain(one, count, Wear(((*STAY, (0, 1, 1, 0), (1, 0, 1, 0)),)), same(), strict(one))
        case = least_case(made, "wrong")
        self.fits(made, "wrong", case, least_price(made, "wrong"))

    def test_wears_with_many_standing_places(self):
        one = Book({"a": (0, 0, 1), "b": (0, 1, 0)}, (1, 1, 1), (1, 0, 0))
        for wear in (strokes(2, 5), rare(3, 1, 5), Wear([[(0, 0, 0, (k + 1) % 6), (1, 1, 0, (k + 5) % 6), (1, 0, k, k),
                                                          (0, 1, 2 * k + 1, 5 - k)] for k in range(6)])):
            for rule in (all_texts(("a", "b")), sums(("a", "b"), (1, 2), (1, 2), 3), trap()):
                for radius in (0, 1):
                    made = Chain(one, rule, wear, middle(radius), near(one, 1))
                    wanted = least_walked(made)
                    for kind in KINDS:
                        self.equal(least_price(made, kind), wanted.get(kind))
                        if kind in wanted:
                            self.fits(made, kind, least_case(made, kind), wanted[kind])

    def test_no_price_for_a_sign_more(self):
        # Each sign worn on the way to the misread one is free, and still the fewest signs are told.
        made = chain(wear=flips(0, 0))
        for kind in KINDS:
            price, text, worn = least_case(made, kind)
            self.fits(made, kind, (price, text, worn), 0)
        self.equal(least_case(made, "none")[1], "")
        self.equal(least_case(made, "unlike")[1], "b")

    def test_the_same_call_gives_the_same(self):
        for made in some_chains(6, 98):
            for kind in KINDS:
                self.equal(least_case(made, kind), least_case(made, kind))


class TestSure(Case):

    def test_by_hand(self):
        self.assertIs(sure(chain()), False)
        self.assertIs(sure(chain=chain(wear=Wear((STAY,)))), True)
        self.assertIs(sure(chain(rule=lengths(("a", "b"), 0, 0))), True)
        self.assertIs(sure(chain(rule=no_text())), True)
        self.assertIs(sure(chain(reader=Reader(3, {}))), True)

    def test_against_least_price(self):
        met = set()
        for made in some_chains(40, 99):
            met.add(sure(made))
            self.assertIs(sure(made), least_price(made, "wrong") is None)
        self.equal(len(met), 2)


def above(one, other):
    """Tell whether a least price is above another one, None being above all numbers."""
    return other is not None and (one is None or one > other)


class TestMargin(Case):

    def test_by_hand(self):
        self.equal(margin(chain()), (1, 1, 1))
        self.equal(margin(chain(wear=Wear((STAY,)))), (None, None, None))
        self.equal(margin(chain=far_chain(0, 5, 7)), (5, 17, 17))
        self.equal(margin(chain(rule=lengths(("a", "b"), 0, 0))), (1, None, None))
        self.equal(margin(chain(rule=lengths(("a", "b"), 1, 1))), (1, 2, 1))

    def test_against_least_price(self):
        unlike = 0
        chains = some_chains(40, 100)
        pairs = [with_rule(made, lengths(made.book.signs, 2, 2)) for made in chains]
        for made in chains + pairs:
            found = margin(made)
            self.equal(found, tuple(least_price(made, kind) for kind in KINDS))
            self.assertFalse(above(found[2], found[1]), "unlike is at most wrong")
            unlike += found[1] != found[2]
        self.assertGreater(unlike, 3)

    def test_all_texts(self):
        for made in some_chains(40, 101):
            found = margin(with_rule(made, all_texts(made.book.signs)))
            self.equal(found[1], found[2])

    def test_a_rule_that_lets_more_is_no_surer(self):
        for made in some_chains(20, 102, (2,)):
            for rule in (all_texts(made.book.signs), lengths(made.book.signs, 0, 3)):
                less = with_rule(made, both(made.rule, rule))
                more = with_rule(made, rule)
                self.assertFalse(above(least_price(more, "wrong"), least_price(less, "wrong")))

    def test_a_dearer_wear_is_no_worse(self):
        for made in some_chains(20, 103):
            cheap, dear = with_wear(made, flips(1, 1)), with_wear(made, flips(2, 1))
            for kind in KINDS:
                self.assertFalse(above(least_price(cheap, kind), least_price(dear, kind)))


class TestTooWide(Case):

    def test_just_20000(self):
        made = sized(3, 2, 1, 25)
        for kind in KINDS:
            least_case(made, kind)
            self.equal(least_price(made, kind), least_walked(made).get(kind))
        self.equal(len(margin(made)), 3)
        sure(made)

    def test_above(self):
        for made in (sized(3, 3, 5, 8), sized(2, 2, 1, 36), sized(6, 3, 6, 40)):
            for kind in KINDS:
                self.raises(TooWide(), least_price, made, kind)
                self.raises(TooWide(), least_case, made, kind)
            self.raises(TooWide(), sure, made)
            self.raises(TooWide(), margin, made)

    def test_behind_the_kind(self):
        for thing in ("right", None, 7):
            self.raises(BadKind(), least_price, sized(6, 3, 6, 40), thing)
            self.raises(BadKind(), least_case, sized(6, 3, 6, 40), thing)

    def test_a_great_chain_without_any_end(self):
        # All there is can be looked through in a short time, also where no case ends the search early.
        wide = Book(dict(zip("0123456789", rows(6)[20:40])), (1,) * 6, (0,) * 6)
        rule = Rule(tuple("0123456789"), [[(7 * state + 3 * sign + 1) % 17 for sign in range(10)]
                                          for state in range(17)], (3,))
        reader = Reader(6, {row: "start" if sum(row) > 4 else str(sum(row)) for row in rows(6)})
        self.equal(margin(Chain(wide, rule, flips(2, 3), same(), reader))[1:], (None, None))


class TestFacts(Case):

    def test_no_case_is_cheaper_than_the_sum_of_a_way(self):
        for made in some_chains(16, 104, (2,)):
            wanted = least_walked(made)
            few = cases_of(made, 2)
            for kind in few:
                self.assertGreaterEqual(few[kind][0], wanted[kind])

    def test_worn_rows_of_longer_labels(self):
        # Some case of each kind has just the least price: it is found among all worn rows of its label.
        for made in some_chains(30, 105, (2,)):
            for kind in KINDS:
                case = least_case(made, kind)
                if case is not None and len(case[1]) <= 4:
                    found = prices_of_rows(made.wear, label_of(made.book, case[1]))
                    least = min(price for worn, price in found.items() if kind in kinds_of(made, case[1], worn))
                    self.equal(least, case[0])

    def test_signs_in_any_place(self):
        # The cheapest misread sign stands behind others that the rule asks for.
        one = Book({"a": (0, 0, 0, 1), "b": (0, 1, 1, 0), "c": (0, 1, 1, 1)}, (1, 1, 0, 0), (1, 0, 0, 0))
        for text in itertools.product("abc", repeat=3):
            moves = [[4] * 3 for _ in range(5)]
            for place, sign in enumerate(text):
                moves[place]["abc".index(sign)] = place + 1
            rule = Rule(("a", "b", "c"), moves, (3,))
            made = Chain(one, rule, flips(1, 1), same(), strict(one))
            case = least_case(made, "unlike")
            # An a becomes a stop at the price 2, and a b a c at 1.
            self.equal(case[:2], (1 if set(text) & {"b", "c"} else 2, "".join(text)))
            self.equal(least_price(made, "wrong"), None)

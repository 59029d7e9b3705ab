"""Tests of surelabels.papers: points 10.3 and 10.4, and 8.4 for them."""

import random

from surelabels.books import Book
from surelabels.chains import Chain, with_rule
from surelabels.errors import BadKind, BadNumber, TooWide
from surelabels.papers import check_closed, check_heights, closed, heights
from surelabels.prices import least_case, least_price
from surelabels.readers import Reader, near
from surelabels.rules import all_texts, lengths
from surelabels.wears import Wear, flips, rare, strokes
from surelabels.windows import middle
from tests.helpers import Case, nested, rows, things
from tests.helpers import same as alike
from tests.test_chains import EVEN, chain, ring, sized
from tests.test_prices import far_chain, wrong_kinds
from tests.test_standings import no_text, spread_standings, trap
from tests.told import KINDS, STAY, begins_as_told, ends_as_told, some_chains, steps_as_told, walked


def is_paper(made, kind, price, heights_told):
    """Tell whether a dict fulfils the three conditions of the document."""
    def height(standing):
        return heights_told.get(standing, price)

    for more, standing in begins_as_told(made):
        if height(standing) > more and price > more:
            return False
    for standing, known in heights_told.items():
        for _, more, then in steps_as_told(made, standing):
            if height(then) > known + more and price > known + more:
                return False
        if any(what == kind and known + more < price for what, more in ends_as_told(made, standing)):
            return False
    return True


def is_closed(made, kind, standings):
    """Tell whether a list of standings is closed and has no end of a kind, as the document says."""
    known = set(standings)
    return (len(known) == len(standings) and all(standing in known for _, standing in begins_as_told(made))
            and all(then in known for here in known for _, _, then in steps_as_told(made, here))
            and not any(what == kind for here in known for what, _ in ends_as_told(made, here)))


def spoiled(standing, chance):
    """Return a standing with one part that is none, or with a part too many or too few."""
    wrong = ((True, -1, 6, None), ([], (2,), (0,) * 9, None), ([], (2,), (0,) * 9, None), ("stop", "A", None, 0),
             (-1, 40, None), (-1, 40, True), (0, 1, None))
    place = chance.randrange(9)
    if place == 7:
        return standing + (False,)
    if place == 8:
        return standing[:6]
    return standing[:place] + (chance.choice(wrong[place]),) + standing[place + 1:]


class TestHeights(Case):

    def holds(self, made, kind, price):
        """Check that heights shows a price, and that check_heights takes what it tells."""
        found = heights(made, kind, price)
        self.assertIs(type(found), dict)
        for standing, height in found.items():
            self.assertTrue(type(standing) is tuple and type(height) is int and 0 <= height < price)
        self.assertTrue(is_paper(made, kind, price, found))
        self.assertIs(check_heights(made, kind, price, found), True)
        return found

    def test_by_hand(self):
        made = chain(wear=flips(3, 2))
        self.assertEqual(heights(made, "none", 2), {(0, (), (1, 1, 1), "start", 0, 0, True): 0,
                                                    (0, (), (0, 1, 1), "a", 1, 0, True): 0,
                                                    (0, (), (0, 1, 1), "a", 0, 1, True): 0,
                                                    (0, (), (1, 0, 1), "b", 0, 0, True): 0,
                                                    (0, (), (1, 0, 1), "b", 1, 1, True): 0})
        self.equal(heights(price=3, kind="none", chain=made), None)
        self.equal(heights(made, "none", 0), {})

    def test_price_0(self):
        for made in some_chains(20, 111):
            for kind in KINDS:
                self.equal(heights(made, kind, 0), {})
                self.assertIs(check_heights(made, kind, 0, {}), True)

    def test_all_prices_to_above_the_least_one(self):
        shown = 0
        for made in some_chains(50, 112):
            for kind in KINDS:
                least = least_price(made, kind)
                for price in range(7 if least is None else least + 1):
                    shown += len(self.holds(made, kind, price)) > 3
                if least is not None:
                    for price in (least + 1, least + 2, 10 ** 39):
                        self.equal(heights(made, kind, price), None)
        self.assertGreater(shown, 40)

    def test_no_case_at_all(self):
        still = chain(wear=Wear((STAY,)))
        for kind in KINDS:
            self.equal(sorted(self.holds(still, kind, 10 ** 39)), sorted(walked(still)))
            self.equal(heights(chain(rule=no_text()), kind, 7), {})
            self.assertIs(check_heights(chain(rule=no_text()), kind, 7, {}), True)

    def test_greater_prices(self):
        many = 10 ** 39
        made = chain(wear=flips(many - 2, many - 1))
        self.equal(least_price(made, "wrong"), many - 1)
        self.holds(made, "wrong", many - 1)
        self.equal(heights(made, "wrong", many), None)

    def test_wider_chains(self):
        wide = Book({"0": (0, 0, 1, 1, 0, 1), "z": (1, 1, 0, 0, 1, 0)}, (1,) * 6, (0, 1, 0, 1, 1, 1))
        for wear, radius in ((flips(1, 1), 1), (rare(2, 1, 2), 0)):
            made = Chain(wide, lengths(("0", "z"), 1, 3), wear, middle(radius), near(wide, 1))
            for kind in KINDS:
                least = least_price(made, kind)
                found = heights(made, kind, least)
                self.assertIs(check_heights(made, kind, least, found), True)
                self.equal(heights(made, kind, least + 1), None)

    def test_each_dict_is_new(self):
        made = chain(wear=flips(3, 2))
        heights(made, "none", 2).clear()
        self.equal(len(heights(made, "none", 2)), 5)


class TestCheckHeights(Case):

    def setUp(self):
        self.chain = with_rule(far_chain(1, 3, 2), EVEN)
        self.price = least_price(self.chain, "wrong")
        self.paper = heights(self.chain, "wrong", self.price)

    def refused(self, thing, price=None):
        """Check that a thing is no paper of the price for the kind "wrong"."""
        self.assertIs(check_heights(self.chain, "wrong", self.price if price is None else price, thing), False)

    def test_the_paper_that_is_spoiled_below(self):
        self.assertGreater(len(self.paper), 40)
        self.assertGreater(len(set(self.paper.values())), 2)
        self.assertIs(check_heights(thing=self.paper, price=self.price, kind="wrong", chain=self.chain), True)

    def test_an_entry_left_out(self):
        for standing in self.paper:
            self.refused({key: self.paper[key] for key in self.paper if key != standing})
        self.refused({})

    def test_any_dict_of_standings_as_the_document_says(self):
        chance = random.Random(113)
        met = {True: 0, False: 0}
        for made in some_chains(40, 114, (2,), states=2):
            for kind in KINDS:
                least = least_price(made, kind)
                price = min(4 if least is None else least, 4)
                paper = heights(made, kind, price)
                for _ in range(6):
                    thing = dict(paper)
                    for standing in chance.sample(sorted(thing), min(len(thing), chance.randint(0, 2))):
                        thing[standing] = max(0, min(price - 1, thing[standing] + chance.choice((-1, 1, 2))))
                    if price:
                        for standing in spread_standings(made, chance.randint(0, 2), chance.randrange(99)):
                            thing.setdefault(standing, chance.randrange(price))
                    wanted = is_paper(made, kind, price, thing)
                    met[wanted] += 1
                    self.assertIs(check_heights(made, kind, price, thing), wanted)
        self.assertGreater(min(met.values()), 60)

    def test_an_entry_greater_and_smaller(self):
        wrong = 0
        for standing, height in sorted(self.paper.items())[::9]:
            for other in (height - 1, height + 1, 0, self.price - 1):
                if other != height:
                    thing = {**self.paper, standing: other}
                    wanted = 0 <= other < self.price and is_paper(self.chain, "wrong", self.price, thing)
                    wrong += not wanted
                    self.assertIs(check_heights(self.chain, "wrong", self.price, thing), wanted)
        self.assertGreater(wrong, 3)

    def test_another_price(self):
        self.refused(self.paper, self.price + 1)
        self.refused(self.paper, self.price + 10)
        # Not for a smaller one either: a height would not be below it.
        self.refused({**self.paper, min(self.paper): self.price - 1}, self.price - 1)

    def test_another_kind_of_number(self):
        standing = min(self.paper, key=self.paper.get)
        for thing in things() + ["0", (0,), None, True, False]:
            if type(thing) is not int:
                self.refused({**self.paper, standing: thing})
        for thing in (-1, self.price, self.price + 1, 10 ** 39):
            self.refused({**self.paper, standing: thing})

    def test_keys_that_are_no_standings(self):
        for thing in things():
            try:
                self.refused({**self.paper, thing: 0})
            except TypeError:
                self.assertRaises(TypeError, hash, thing)
        chance = random.Random(115)
        for standing in self.paper:
            for _ in range(20):
                other = spoiled(standing, chance)
                kept = {key: self.paper[key] for key in self.paper if key != standing}
                try:
                    self.refused({**self.paper, other: 0} if other != standing else {**kept, other: 0})
                    self.refused({**kept, other: self.paper[standing]})
                except TypeError:
                    self.assertRaises(TypeError, hash, other)

    def test_true_for_an_integer_in_a_key(self):
        standing, height = next((key, self.paper[key]) for key in self.paper if key[4] == 1 and key[5] == 1)
        kept = {key: self.paper[key] for key in self.paper if key != standing}
        for place in (4, 5):
            other = standing[:place] + (True,) + standing[place + 1:]
            # Python takes this key for the other one, but it is none.
            self.assertEqual(other, standing)
            self.refused({**kept, other: height})
        other = standing[:6] + (int(standing[6]),)
        self.refused({**kept, other: height})
        self.assertIs(check_heights(self.chain, "wrong", self.price, {**kept, standing: height}), True)

    def test_states_without_hope(self):
        made = chain(rule=trap(), wear=Wear((STAY,)))
        paper = heights(made, "wrong", 1)
        self.assertIs(check_heights(made, "wrong", 1, paper), True)
        self.assertIs(check_heights(made, "wrong", 1, {**paper, (0, (), (0, 1, 1), "a", 0, 1, False): 0}), True)
        self.assertIs(check_heights(made, "wrong", 1, {**paper, (0, (), (0, 1, 1), "a", 1, 0, False): 0}), False)

    def test_more_standings_than_needed(self):
        # Standings that no label leads to may be there, if they fit the conditions.
        still = chain(wear=Wear((STAY,)))
        paper = heights(still, "none", 2)
        good = (0, (), (0, 1, 1), "b", 0, 0, False)
        for known in (0, 1):
            thing = {**paper, good: known}
            self.assertIs(check_heights(still, "none", 2, thing), is_paper(still, "none", 2, thing))
        misread = (0, (), (0, 0, 0), "b", 0, 0, True)
        self.assertIs(check_heights(still, "none", 2, {**paper, misread: 0}), False)
        paper = heights(still, "wrong", 2)
        for known in (0, 1):
            self.assertIs(check_heights(still, "wrong", 2, {**paper, misread: known}), True)
        for known in (-1, 2, True, False, None, "0"):
            self.assertIs(check_heights(still, "wrong", 2, {**paper, misread: known}), False)

    def test_unlike_last_signs_behind_a_misread_one(self):
        # Such standings go on alike, but each of them has a height of its own.
        reader = Reader(3, {row: "start" if row == (1, 1, 1) else "a" for row in rows(3)})
        made = chain(rule=lengths(("a", "b"), 3, 3), reader=reader)
        self.equal(least_price(made, "wrong"), None)
        paper = heights(made, "wrong", 5)
        unlike = [standing for standing in paper if not standing[6] and paper[standing] > 0]
        self.assertGreater(len(unlike), 20)
        for standing in unlike[::len(unlike) // 4]:
            self.assertIn(standing[:3] + ("b" if standing[3] == "a" else "a",) + standing[4:], paper)
            self.assertIs(check_heights(made, "wrong", 5, {key: paper[key] for key in paper if key != standing}), False)
            self.assertIs(check_heights(made, "wrong", 5, {**paper, standing: 4}), paper[standing] == 4)
            lower = {**paper, standing: paper[standing] - 1}
            self.assertIs(check_heights(made, "wrong", 5, lower), is_paper(made, "wrong", 5, lower))

    def test_what_is_no_dict(self):
        for thing in things() + [list(self.paper.items()), tuple(self.paper), list(self.paper), None, 0]:
            if not alike(thing, {}):
                self.refused(thing)
                self.assertIs(check_heights(self.chain, "wrong", 0, thing), False)

    def test_the_order_of_the_keys_means_nothing(self):
        turned = dict(reversed(list(self.paper.items())))
        self.assertIs(check_heights(self.chain, "wrong", self.price, turned), True)

    def test_what_is_passed_stays(self):
        before = dict(self.paper)
        check_heights(self.chain, "wrong", self.price, self.paper)
        self.equal(self.paper, before)

    def test_a_chain_that_is_too_wide_for_others(self):
        made = sized(6, 3, 6, 40)
        self.assertIs(check_heights(made, "wrong", 0, {}), True)
        self.assertIs(check_heights(made, "wrong", 1, {}), False)
        self.assertIs(check_heights(made, "wrong", 1, {min(begins_as_told(made))[1]: 0}), False)


class TestClosed(Case):

    def test_by_hand(self):
        still = chain(wear=Wear((STAY,)))
        wanted = [(0, (), (0, 1, 1), "a", 0, 1, True), (0, (), (0, 1, 1), "a", 1, 0, True),
                  (0, (), (1, 0, 1), "b", 0, 0, True), (0, (), (1, 0, 1), "b", 1, 1, True),
                  (0, (), (1, 1, 1), "start", 0, 0, True)]
        for kind in KINDS:
            found = closed(chain=still, kind=kind)
            self.equal(sorted(found), wanted)
            self.assertIs(check_closed(still, kind, found), True)

    def test_a_rule_that_lets_no_text(self):
        for kind in KINDS:
            self.equal(closed(chain(rule=no_text()), kind), [])
            self.assertIs(check_closed(chain(rule=no_text()), kind, []), True)
            self.assertIs(check_closed(chain(rule=no_text()), kind, ()), True)

    def test_either_a_case_or_a_closed_list(self):
        shown = 0
        for made in some_chains(60, 116):
            for kind in KINDS:
                found = closed(made, kind)
                self.equal(found is None, least_case(made, kind) is not None)
                if found is not None:
                    self.assertIs(type(found), list)
                    self.assertTrue(is_closed(made, kind, found))
                    self.assertIs(check_closed(made, kind, found), True)
                    shown += len(found) > 3
        self.assertGreater(shown, 15)

    def test_each_list_is_new(self):
        still = chain(wear=Wear((STAY,)))
        closed(still, "none").clear()
        self.equal(len(closed(still, "none")), 5)


class TestCheckClosed(Case):

    def setUp(self):
        self.chain = chain(wear=strokes(1, 2), reader=Reader(3, {(1, 1, 1): "start", (0, 1, 1): "a", (1, 0, 1): "b"}))
        self.list = closed(self.chain, "wrong")

    def refused(self, thing):
        """Check that a thing is no closed list for the kind "wrong"."""
        self.assertIs(check_closed(self.chain, "wrong", thing), False)

    def test_the_list_that_is_spoiled_below(self):
        self.assertGreater(len(self.list), 5)
        self.assertIs(check_closed(thing=self.list, kind="wrong", chain=self.chain), True)

    def test_turned_about_and_as_a_tuple(self):
        self.assertIs(check_closed(self.chain, "wrong", self.list[::-1]), True)
        self.assertIs(check_closed(self.chain, "wrong", tuple(self.list)), True)
        self.assertIs(check_closed(self.chain, "wrong", sorted(self.list)), True)

    def test_standings_as_lists(self):
        self.assertIs(check_closed(self.chain, "wrong", [list(standing) for standing in self.list]), True)

    def test_a_standing_left_out(self):
        for place in range(len(self.list)):
            self.refused(self.list[:place] + self.list[place + 1:])
        self.refused([])

    def test_a_standing_put_in_twice(self):
        for standing in self.list:
            self.refused(self.list + [standing])
            self.refused([list(standing)] + self.list)

    def test_a_standing_spoiled(self):
        chance = random.Random(117)
        for place, standing in enumerate(self.list):
            for _ in range(12):
                other = spoiled(standing, chance)
                self.refused(self.list[:place] + [other] + self.list[place + 1:])
                self.refused(self.list + [other])

    def test_true_for_an_integer(self):
        standing = next(here for here in self.list if here[4] == 1 and here[5] == 1)
        kept = [here for here in self.list if here != standing]
        for place in (4, 5):
            self.refused(kept + [standing[:place] + (True,) + standing[place + 1:]])
        self.refused(kept + [standing[:6] + (int(standing[6]),)])

    def test_things_beside_the_standings(self):
        for thing in things():
            self.refused(self.list + [thing])
            self.refused((thing, *self.list))

    def test_a_standing_with_an_end_of_the_kind(self):
        still = chain(wear=Wear((STAY,)))
        found = closed(still, "none")
        self.assertIs(check_closed(still, "none", found + [(0, (), (0, 0, 0), "a", 1, 1, True)]), False)
        # Without an end of the kind, and with all its steps, more standings may be there.
        self.assertIs(check_closed(still, "wrong", found + [(0, (), (0, 0, 0), "a", 1, 1, True)]), True)

    def test_a_kind_of_which_there_are_cases(self):
        made = chain()
        for kind in KINDS:
            for thing in (sorted(walked(made)), [], [standing for _, standing in begins_as_told(made)]):
                self.assertIs(check_closed(made, kind, thing), False)

    def test_any_list_of_standings_as_the_document_says(self):
        chance = random.Random(118)
        met = {True: 0, False: 0}
        for made in some_chains(40, 119, (2,), states=2):
            known = sorted(walked(made))
            for kind in KINDS:
                for _ in range(5):
                    more = [one for one in spread_standings(made, chance.randint(0, 2), chance.randrange(99))
                            if one not in known]
                    thing = known + sorted(set(more))
                    wanted = is_closed(made, kind, thing)
                    met[wanted] += 1
                    self.assertIs(check_closed(made, kind, thing), wanted)
        self.assertGreater(min(met.values()), 60)

    def test_what_is_no_list(self):
        for thing in things() + [{standing: 0 for standing in self.list}, nested(self.list, 1, lambda x: [x])]:
            self.refused(thing)

    def test_what_is_passed_stays(self):
        before = list(self.list)
        check_closed(self.chain, "wrong", self.list)
        self.equal(self.list, before)
        made = [list(standing) for standing in self.list]
        check_closed(self.chain, "wrong", made)
        self.equal(made, [list(standing) for standing in self.list])

    def test_a_chain_that_is_too_wide_for_others(self):
        made = sized(6, 3, 6, 40)
        self.assertIs(check_closed(made, "wrong", []), False)
        still = Chain(made.book, all_texts(("a",)), Wear((STAY,) * 6), middle(3), made.reader)
        wide = with_rule(still, ring(40))
        self.assertIs(check_closed(wide, "wrong", closed(still, "wrong")), False)
        self.assertIs(check_closed(wide, "wrong", sorted(walked(wide))), True)


class TestErrors(Case):

    def setUp(self):
        self.wide = sized(6, 3, 6, 40)

    def test_wrong_kind(self):
        for thing in wrong_kinds():
            for made in (chain(), self.wide):
                self.raises(BadKind(), heights, made, thing, 1)
                self.raises(BadKind(), check_heights, made, thing, 1, {})
                self.raises(BadKind(), closed, made, thing)
                self.raises(BadKind(), check_closed, made, thing, [])

    def test_wrong_price(self):
        for thing in things() + [-1, -10 ** 39]:
            if not (type(thing) is int and thing >= 0):
                for made in (chain(), self.wide):
                    self.raises(BadNumber("price"), heights, made, "none", thing)
                    self.raises(BadNumber("price"), check_heights, made, "none", thing, {})
                    self.raises(BadNumber("price"), check_heights, made, "none", thing, None)

    def test_too_wide(self):
        for made in (sized(3, 3, 5, 8), sized(2, 2, 1, 36), self.wide):
            for kind in KINDS:
                self.raises(TooWide(), heights, made, kind, 0)
                self.raises(TooWide(), heights, made, kind, 7)
                self.raises(TooWide(), closed, made, kind)

    def test_just_20000(self):
        made = sized(3, 2, 1, 25)
        for kind in KINDS:
            self.equal(heights(made, kind, 0), {})
            least = least_price(made, kind)
            if least is None:
                self.assertIs(check_closed(made, kind, closed(made, kind)), True)
            else:
                self.equal(closed(made, kind), None)
                self.assertIs(check_heights(made, kind, least, heights(made, kind, least)), True)

    def test_the_order_of_the_errors(self):
        self.raises(BadKind(), heights, self.wide, "right", -1)
        self.raises(BadNumber("price"), heights, self.wide, "none", -1)
        self.raises(BadKind(), check_heights, self.wide, None, None, None)
        self.raises(BadKind(), closed, self.wide, None)

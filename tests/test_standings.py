"""Tests of surelabels.standings: points 9.1 to 9.5."""

import random

from surelabels.books import Book
from surelabels.chains import Chain
from surelabels.errors import NoStanding
from surelabels.readers import Reader, near, strict
from surelabels.rules import Rule, all_texts, lengths
from surelabels.standings import begins, ends, steps
from surelabels.wears import Wear, flips, rare, strokes
from surelabels.windows import Window, middle, same
from tests.helpers import Case, nested, rows, same as alike, things
from tests.test_books import book
from tests.test_chains import EVEN, chain, sized
from tests.told import (STAY, begins_as_told, ends_as_told, hopeful, some_chains, state_behind, steps_as_told,
                        swept_row, walked, worn_ways)


def trap(signs=("a", "b")):
    """Return a rule that lets the texts of the first sign alone: no good state behind any other sign."""
    return Rule(signs, ((0,) + (1,) * (len(signs) - 1), (1,) * len(signs)), (0,))


def no_text(signs=("a", "b")):
    """Return a rule that lets no text."""
    return Rule(signs, ((0,) * len(signs),), ())


def spread_standings(made, many, seed):
    """Return standings of a chain of any parts, whether labels lead to them or not."""
    chance = random.Random(seed)
    hope = sorted(hopeful(made.rule))
    radius, states = made.window.radius, range(len(made.rule.moves))
    if not hope:
        return []
    return [(chance.randrange(len(made.wear.moves)), chance.choice(rows(2 * radius)),
             chance.choice(rows(made.book.width - radius)), chance.choice(made.book.signs + ("start",)),
             chance.choice(hope), chance.choice(states), chance.random() < 0.5) for _ in range(many)]


def laid_out(made, signs):
    """Return, for all labels so far of this many signs, the standings with their least prices.

    Each label so far is printed and worn as a whole here, swept as a whole, and only then cut into blocks.
    """
    width, radius = made.book.width, made.window.radius
    beginnings = [("", made.book.start)]
    for _ in range(signs):
        beginnings = [(text + sign, row + made.book.patterns[sign]) for text, row in beginnings
                      for sign in made.book.signs]
    least = {}
    for text, row in beginnings:
        meant = state_behind(made.rule, text)
        if meant not in hopeful(made.rule):
            continue
        for (worn, place), price in worn_ways(made.wear, row).items():
            swept = swept_row(made.window, worn)
            marks = [made.reader.marks.get(swept[at:at + width]) for at in range(0, len(row) - width, width)]
            if marks and (marks[0] != "start" or not set(marks[1:]) <= set(made.book.signs)):
                continue
            tail = ((0,) * 6 + worn)[len(worn) + 6 - 2 * radius:]
            begun = swept[len(row) - width:len(row) - radius]
            told = state_behind(made.rule, marks[1:])
            standing = (place, tail, begun, (["start"] + list(text))[-1], meant, told, "".join(marks[1:]) == text[:-1])
            least[standing] = min(price, least.get(standing, price))
    return least


class TestBegins(Case):

    def test_by_hand(self):
        made = chain(wear=Wear(((*STAY, (0, 1, 4, 0)),)))
        self.equal(begins(made), [(0, (0, (), (1, 1, 1), "start", 0, 0, True))])
        self.equal(begins(chain=chain()), [(3 - sum(row), (0, (), row, "start", 0, 0, True)) for row in rows(3)])

    def test_a_window_looks_at_light_cells_ahead(self):
        one = Book({"a": (0, 1)}, (1, 1), (0, 0))
        made = Chain(one, all_texts(("a",)), Wear((STAY,)), middle(1), strict(one))
        self.equal(begins(made), [(0, (0, (1, 1), (1,), "start", 0, 0, True))])
        back = Window(1, tuple(cells[0] for cells in rows(3)))
        self.equal(begins(Chain(one, all_texts(("a",)), Wear((STAY,)), back, strict(one))),
                   [(0, (0, (1, 1), (0,), "start", 0, 0, True))])

    def test_the_radius_is_the_width(self):
        one = Book({"a": (0, 1)}, (1, 1), (0, 0))
        made = Chain(one, all_texts(("a",)), Wear((STAY,)), middle(2), strict(one))
        self.equal(begins(made), [(0, (0, (0, 0, 1, 1), (), "start", 0, 0, True))])

    def test_the_least_price(self):
        wear = Wear([[(0, 0, 0, 0), (1, 1, 0, 0), (1, 0, 5, 0), (1, 0, 2, 1)], [*STAY, (1, 0, 7, 0), (0, 0, 0, 1)]])
        one = Book({"a": (0, 1)}, (1, 1), (0, 0))
        made = Chain(one, all_texts(("a",)), wear, same(), strict(one))
        self.equal(begins(made), [(9, (0, (), (0, 0), "start", 0, 0, True)), (2, (0, (), (0, 1), "start", 0, 0, True)),
                                  (5, (0, (), (1, 0), "start", 0, 0, True)), (0, (0, (), (1, 1), "start", 0, 0, True)),
                                  (7, (1, (), (0, 0), "start", 0, 0, True)), (2, (1, (), (1, 0), "start", 0, 0, True))])

    def test_a_rule_that_lets_no_text(self):
        self.equal(begins(chain(rule=no_text())), [])

    def test_some_chains(self):
        for made in some_chains(60, 81):
            self.equal(begins(made), begins_as_told(made))

    def test_each_list_is_new(self):
        made = chain()
        begins(made).clear()
        self.equal(len(begins(made)), 8)


class TestLaidOut(Case):

    def test_against_laying_the_blocks_out(self):
        for made in (some_chains(40, 82, (2,)) + some_chains(12, 83, (3,), signs=2, places=2)):
            far = {standing: price for price, standing in begins(made)}
            self.equal(dict(sorted(far.items())), dict(sorted(laid_out(made, 0).items())))
            for signs in (1, 2):
                behind = {}
                for standing in far:
                    for _, price, then in steps(made, standing):
                        behind[then] = min(far[standing] + price, behind.get(then, far[standing] + price))
                far = behind
                self.equal(dict(sorted(far.items())), dict(sorted(laid_out(made, signs).items())))
                if made.book.width > 2:
                    break


class TestSteps(Case):

    def test_by_hand(self):
        made = chain(wear=Wear((STAY,)))
        first = begins(made)[0][1]
        self.equal(steps(made, first), [("a", 0, (0, (), (0, 1, 1), "a", 1, 0, True)),
                                        ("b", 0, (0, (), (1, 0, 1), "b", 0, 0, True))])
        behind = (0, (), (0, 1, 1), "a", 1, 0, True)
        self.equal(steps(chain=made, standing=behind), [("a", 0, (0, (), (0, 1, 1), "a", 0, 1, True)),
                                                        ("b", 0, (0, (), (1, 0, 1), "b", 1, 1, True))])

    def test_a_last_block_that_is_misread(self):
        made = chain(wear=Wear((STAY,)))
        self.equal(steps(made, (0, (), (1, 0, 1), "a", 1, 0, True)), [("a", 0, (0, (), (0, 1, 1), "a", 0, 0, False)),
                                                                      ("b", 0, (0, (), (1, 0, 1), "b", 1, 0, False))])
        for begun in ((0, 0, 0), (1, 1, 1), (0, 0, 1)):
            self.equal(steps(made, (0, (), begun, "a", 1, 0, True)), [])
        for begun in ((0, 0, 0), (0, 1, 1), (0, 0, 1)):
            self.equal(steps(made, (0, (), begun, "start", 0, 0, True)), [])

    def test_what_was_unlike_stays_so(self):
        made = chain(wear=Wear((STAY,)))
        for sign, _, then in steps(made, (0, (), (0, 1, 1), "a", 1, 0, False)):
            self.equal(then[3:], (sign, 0 if sign == "a" else 1, 1, False))

    def test_states_without_hope_are_left_out(self):
        made = chain(rule=trap())
        for _, standing in begins(made):
            self.assertEqual({sign for sign, _, _ in steps(made, standing)} - {"a"}, set())
        known = walked(made)
        self.equal({standing[4] for standing in known}, {0})
        # What is read may well lead to a state without hope.
        self.equal({standing[5] for standing in known}, {0, 1})

    def test_a_standing_as_a_list(self):
        made = chain(window=middle(1))
        for _, standing in begins(made):
            self.equal(steps(made, list(standing)), steps(made, standing))
            self.equal(ends(made, list(standing)), ends(made, standing))

    def test_standings_that_labels_lead_to(self):
        chance = random.Random(84)
        for made in some_chains(40, 85):
            known = sorted(walked(made))
            for standing in chance.sample(known, min(12, len(known))):
                self.equal(steps(made, standing), steps_as_told(made, standing))

    def test_standings_of_any_parts(self):
        for number, made in enumerate(some_chains(40, 86)):
            for standing in spread_standings(made, 12, number):
                self.equal(steps(made, standing), steps_as_told(made, standing))

    def test_wide_chains(self):
        wide = Book({"0": (0, 0, 1, 1, 0, 1), "z": (1, 1, 0, 0, 1, 0)}, (1,) * 6, (0, 1, 0, 1, 1, 1))
        rule = lengths(("0", "z"), 1, 3)
        for wear in (flips(1, 2), strokes(1, 2), rare(1, 1, 2)):
            for radius in (0, 1, 3):
                made = Chain(wide, rule, wear, middle(radius), near(wide, 1))
                self.equal(begins(made), begins_as_told(made))
                for standing in spread_standings(made, 4, radius):
                    self.equal(steps(made, standing), steps_as_told(made, standing))
                    self.equal(ends(made, standing), ends_as_told(made, standing))


class TestEnds(Case):

    def test_by_hand(self):
        made = chain()
        self.equal(ends(made, (0, (), (1, 1, 1), "start", 0, 0, True)), [("none", 1), ("right", 0)])
        # Only a sign can be printed where the rule does not let the text so far: then None is never read yet.
        self.equal(ends(made, (0, (), (0, 1, 1), "a", 1, 0, True)), [])
        self.equal(ends(made, (0, (), (0, 1, 1), "b", 0, 0, True)), [("none", 0), ("unlike", 0)])
        self.equal(ends(made, (0, (), (1, 0, 1), "a", 0, 1, True)), [("none", 0), ("unlike", 0)])
        self.equal(ends(made, (0, (), (1, 0, 1), "b", 0, 0, True)), [("none", 1), ("right", 0)])

    def test_the_stop_is_worn_too(self):
        made = chain(wear=flips(4, 3))
        self.equal(ends(chain=made, standing=(0, (), (1, 1, 1), "start", 0, 0, True)), [("none", 3), ("right", 0)])

    def test_a_last_sign_that_is_read_as_the_stop(self):
        made = chain()
        for meant in (0, 1):
            for same_so_far in (False, True):
                standing = (0, (), (0, 0, 1), "a", meant, 0, same_so_far)
                self.equal(ends(made, standing), [("unlike", 0), ("wrong", 0)])
                standing = (0, (), (0, 0, 1), "a", meant, 1, same_so_far)
                self.equal(ends(made, standing), [("none", 0), ("unlike", 0)])

    def test_a_start_that_is_read_as_the_stop(self):
        self.equal(ends(chain(), (0, (), (0, 0, 1), "start", 0, 0, True)), [("none", 0)])

    def test_a_sign_that_is_read_as_the_start(self):
        self.equal(ends(chain(), (0, (), (1, 1, 1), "a", 0, 0, True)), [("none", 0)])

    def test_states_without_hope_are_left_out(self):
        # Behind the sign a the rule lets no text, and so the stop alone can be printed.
        rule = Rule(("a",), ((1,), (1,)), (0,))
        one = Book({"a": (0, 1)}, (1, 1), (0, 0))
        made = Chain(one, rule, flips(2, 3), same(), strict(one))
        self.equal(ends(made, (0, (), (0, 0), "start", 0, 0, True)), [("none", 0)])
        self.equal(ends(made, (0, (), (1, 1), "start", 0, 0, True)), [("none", 2), ("right", 0)])

    def test_light_cells_behind_the_stop(self):
        # Each cell becomes what stands behind it: the label 0 1 1 1 of the empty text becomes 1 1 1 0.
        one = Book({"a": (0, 0)}, (0, 1), (1, 1))
        ahead = Window(1, tuple(cells[2] for cells in rows(3)))
        for marks, what in (({(1, 1): "start", (1, 0): "stop"}, "right"), ({(1, 1): "start"}, "none"),
                            ({(1, 1): "start", (0, 0): "stop"}, "none")):
            reader = Reader(2, marks)
            made = Chain(one, lengths(("a",), 0, 0), Wear((STAY,)), ahead, reader)
            self.equal(ends(made, begins(made)[0][1]), [(what, 0)])

    def test_standings_that_labels_lead_to(self):
        chance = random.Random(87)
        met = set()
        for made in some_chains(60, 88):
            known = sorted(walked(made))
            for standing in chance.sample(known, min(12, len(known))):
                found = ends(made, standing)
                met.update(what for what, _ in found)
                self.equal(found, ends_as_told(made, standing))
        self.equal(sorted(met), ["none", "right", "unlike", "wrong"])

    def test_standings_of_any_parts(self):
        for number, made in enumerate(some_chains(60, 89)):
            for standing in spread_standings(made, 15, number):
                self.equal(ends(made, standing), ends_as_told(made, standing))

    def test_each_list_is_new(self):
        made = chain()
        standing = begins(made)[-1][1]
        ends(made, standing).clear()
        steps(made, standing).clear()
        self.equal(len(ends(made, standing)), 2)
        self.equal(len(steps(made, standing)), 16)


class TestNoStanding(Case):

    def setUp(self):
        self.chain = Chain(book(), trap(), rare(1, 1, 1), middle(1), strict(book()))
        self.standing = (1, (0, 1), (1, 0), "b", 0, 1, False)

    def refused(self, thing):
        """Check that a thing is no standing of the chain."""
        self.raises(NoStanding(), steps, self.chain, thing)
        self.raises(NoStanding(), ends, self.chain, thing)

    def test_the_standing_that_is_spoiled_below(self):
        self.equal(steps(self.chain, self.standing), steps_as_told(self.chain, self.standing))
        self.equal(ends(self.chain, self.standing), ends_as_told(self.chain, self.standing))

    def test_each_part_spoiled_alone(self):
        good = [lambda x: type(x) is int and x in (0, 1), lambda x: alike(x, (0, 1)), lambda x: alike(x, (0, 1)),
                lambda x: type(x) is str and x in ("a", "b", "start"), lambda x: type(x) is int and x == 0,
                lambda x: type(x) is int and x in (0, 1), lambda x: type(x) is bool]
        wrong = things() + [2, -1, (0, 1, 0), (0,), (), (0, True), (0, 2), [0, 1], "c", "stop", "ab", "", "None"]
        for place in range(7):
            for thing in wrong:
                if not good[place](thing):
                    self.refused(self.standing[:place] + (thing,) + self.standing[place + 1:])

    def test_true_for_an_integer_and_0_for_the_bool(self):
        for place in (0, 5):
            self.refused(self.standing[:place] + (True,) + self.standing[place + 1:])
        self.refused((1, (0, 1), (1, 0), "b", False, 1, False))
        for thing in (0, 1, None, "", "True"):
            self.refused(self.standing[:6] + (thing,))

    def test_too_many_parts_and_too_few(self):
        for many in range(7):
            self.refused(self.standing[:many])
        self.refused(self.standing + (False,))
        self.refused(self.standing + self.standing)
        self.refused(list(self.standing) + [None])

    def test_a_meant_from_which_nothing_good_comes(self):
        self.refused((1, (0, 1), (1, 0), "b", 1, 1, False))
        for call in (steps, ends):
            for state in (-1, -2, 2):
                self.raises(NoStanding(), call, chain(), (0, (), (1, 1, 1), "start", state, 0, True))
                self.raises(NoStanding(), call, chain(), (0, (), (1, 1, 1), "start", 0, state, True))
        self.equal(begins(chain(rule=no_text())), [])
        for call in (steps, ends):
            self.raises(NoStanding(), call, chain(rule=no_text()), (0, (), (1, 1, 1), "start", 0, 0, True))

    def test_what_is_no_standing_at_all(self):
        for thing in things() + [nested(self.standing, 1, lambda x: (x,)), nested(self.standing, 2, lambda x: [x])]:
            self.refused(thing)

    def test_rows_as_lists(self):
        self.refused((1, [0, 1], (1, 0), "b", 0, 1, False))
        self.refused([1, (0, 1), [1, 0], "b", 0, 1, False])

    def test_rows_of_other_lengths(self):
        for tail in ((), (0,), (0, 1, 0), (0, 0, 0, 1)):
            self.refused((1, tail, (1, 0), "b", 0, 1, False))
        for begun in ((), (1,), (1, 0, 1)):
            self.refused((1, (0, 1), begun, "b", 0, 1, False))


class TestWide(Case):

    def test_no_chain_is_too_wide(self):
        made = sized(6, 3, 6, 40)
        first = begins(made)
        self.equal(first, begins_as_told(made))
        for _, standing in first[:2]:
            self.equal(steps(made, standing), steps_as_told(made, standing))
            self.equal(ends(made, standing), ends_as_told(made, standing))

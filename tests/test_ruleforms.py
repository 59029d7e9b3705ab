"""Tests of surelabels.ruleforms: points 3.3 to 3.5."""

import random

from surelabels.errors import BadNumber, OtherSigns, TooMany
from surelabels.ruleforms import both, either, least_let, least_rule, many_let, opposite, texts_let, unlike_text
from surelabels.rules import Rule, all_texts, lengths, sums
from tests.helpers import Case, texts, things


def some_rules(many, signs="ab", most=4, seed=3):
    """Return rules of chance, the same ones each time."""
    chance = random.Random(seed)
    made = []
    for _ in range(many):
        states = chance.randint(1, most)
        moves = [[chance.randrange(states) for _ in signs] for _ in range(states)]
        good = [state for state in range(states) if chance.random() < chance.choice((0.2, 0.5, 0.8))]
        made.append(Rule(tuple(signs), moves, good))
    return made


def ring(tail, size, good):
    """Return a rule of one sign whose states are a tail and a ring, good where told."""
    moves = [[state + 1] for state in range(tail + size - 1)] + [[tail]]
    return Rule(("a",), moves, good)


def pairs_as_told(one, other, good):
    """Return the fields of both or either as the document numbers the pairs."""
    met = [(0, 0)]
    moves = []
    at = 0
    while at < len(met):
        row = []
        for column in range(len(one.signs)):
            pair = (one.moves[met[at][0]][column], other.moves[met[at][1]][column])
            if pair not in met:
                met.append(pair)
            row.append(met.index(pair))
        moves.append(tuple(row))
        at += 1
    return one.signs, tuple(moves), tuple(k for k, (p, q) in enumerate(met) if good(p in one.good, q in other.good))


def fields(rule):
    """Return the fields of a rule."""
    return rule.signs, rule.moves, rule.good


class TestBothAndEither(Case):

    def test_what_they_let(self):
        made = some_rules(24)
        for one, other in zip(made, made[1:]):
            joined, any_of = both(one, other), either(one, other)
            for text in texts("ab", 6):
                self.equal(joined.lets(text), one.lets(text) and other.lets(text))
                self.equal(any_of.lets(text), one.lets(text) or other.lets(text))

    def test_numbering_of_the_pairs(self):
        made = some_rules(60) + some_rules(30, "abc", 5, 9)
        for one, other in zip(made, made[1:]):
            if one.signs == other.signs:
                self.equal(fields(both(one, other)), pairs_as_told(one, other, lambda p, q: p and q))
                self.equal(fields(either(one, other)), pairs_as_told(one, other, lambda p, q: p or q))

    def test_one_numbering_by_hand(self):
        one = Rule(("a", "b"), ((2, 0), (0, 0), (1, 2)), (1,))
        other = Rule(("a", "b"), ((0, 1), (1, 1)), (1,))
        # (0, 0), (2, 0), (0, 1), (1, 0), (2, 1), (1, 1)
        self.equal(fields(both(one, other)),
                   (("a", "b"), ((1, 2), (3, 4), (4, 2), (0, 2), (5, 4), (2, 2)), (5,)))
        self.equal(fields(either(one=one, other=other)),
                   (("a", "b"), ((1, 2), (3, 4), (4, 2), (0, 2), (5, 4), (2, 2)), (2, 3, 4, 5)))
        self.assertTrue(both(other=other, one=one) == both(one, other))

    def test_forty_pairs_and_more(self):
        for join in (both, either):
            self.equal(len(join(ring(0, 5, [0]), ring(0, 8, [0])).moves), 40)
            self.raises(TooMany(40), join, ring(1, 5, [0]), ring(0, 8, [0]))
            self.raises(TooMany(40), join, ring(0, 8, [0]), ring(1, 5, [0]))
            self.raises(TooMany(40), join, ring(0, 39, []), ring(0, 40, []))
            self.equal(len(join(ring(0, 40, [0]), ring(0, 40, [3])).moves), 40)
            self.equal(len(join(ring(0, 40, [0]), ring(0, 20, [3])).moves), 40)

    def test_pairs_that_no_text_leads_to_do_not_count(self):
        far = Rule(("a",), [(0,)] + [(state,) for state in range(39)], (5,))
        self.equal(fields(both(far, far)), (("a",), ((0,),), ()))

    def test_other_signs(self):
        for join in (both, either):
            self.raises(OtherSigns(), join, all_texts(("a",)), all_texts(("b",)))
            self.raises(OtherSigns(), join, all_texts(("a", "b")), all_texts(("a",)))
            two = Rule(("b",), ring(1, 5, []).moves, ())
            self.raises(OtherSigns(), join, two, ring(0, 8, []))


class TestOpposite(Case):

    def test_what_it_lets(self):
        for rule in some_rules(30):
            for text in texts("ab", 5):
                self.equal(opposite(rule).lets(text), not rule.lets(text))

    def test_all_and_none(self):
        self.equal(opposite(rule=all_texts(("a", "b"))).lets("ab"), False)
        self.equal(opposite(Rule(("a",), ((0,),), ())).lets("a"), True)
        self.equal(opposite(all_texts(("a", "b"))).signs, ("a", "b"))


def kinds_of_text(rule, longest):
    """Return the number of kinds of texts that no continuation tells apart, by short texts."""
    ends = texts(rule.signs, longest)
    return len({tuple(rule.lets(text + end) for end in ends) for text in ends})


class TestLeastRule(Case):

    def test_lets_the_same(self):
        for rule in some_rules(60) + some_rules(20, "abc", 4, 5):
            least = least_rule(rule)
            for text in texts(rule.signs, 5):
                self.equal(least.lets(text), rule.lets(text))

    def test_fewest_states(self):
        for rule in some_rules(40, "ab", 4, 11):
            self.equal(len(least_rule(rule).moves), kinds_of_text(rule, 4))

    def test_numbered_as_first_met(self):
        for rule in some_rules(80, "abc", 6, 2):
            least = least_rule(rule)
            met = [0]
            for row in least.moves:
                met += [state for k, state in enumerate(row) if state not in met and state not in row[:k]]
            self.equal(met, list(range(len(least.moves))))

    def test_by_hand(self):
        # States 1 and 3 are alike, no text leads to state 4.
        rule = Rule(("a", "b"), ((3, 2), (0, 2), (2, 1), (0, 2), (4, 0)), (1, 3, 4))
        self.equal(fields(least_rule(rule=rule)), (("a", "b"), ((1, 2), (0, 2), (2, 1)), (1,)))

    def test_long_to_tell_apart(self):
        # Only the last state of a row of 40 is good: all are unlike, though told apart by long texts alone.
        line = Rule(("a",), [[min(state + 1, 39)] for state in range(40)], [39])
        self.equal(fields(least_rule(line)), fields(line))
        self.equal(len(least_rule(ring(0, 40, [7])).moves), 40)
        self.equal(fields(least_rule(ring(0, 40, list(range(0, 40, 2))))), (("a",), ((1,), (0,)), (0,)))
        self.equal(fields(least_rule(ring(3, 6, [1, 3, 5, 7]))), (("a",), ((1,), (0,)), (1,)))

    def test_none_and_all(self):
        self.equal(fields(least_rule(Rule(("a", "b"), ((1, 2), (2, 0), (0, 1)), ()))), (("a", "b"), ((0, 0),), ()))
        self.equal(fields(least_rule(Rule(("a", "b"), ((1, 2), (2, 0), (0, 1)), (0, 1, 2)))),
                   (("a", "b"), ((0, 0),), (0,)))

    def test_same_texts_exactly_if_least_rules_are_equal(self):
        made = some_rules(45, "ab", 3, 21)
        for one in made:
            for other in made:
                self.equal(least_rule(one) == least_rule(other), unlike_text(one, other) is None)


class TestUnlikeText(Case):

    def test_least_one(self):
        made = some_rules(50, "ab", 4, 8)
        for one, other in zip(made, made[1:]):
            found = [text for text in texts("ab", 7) if one.lets(text) != other.lets(text)]
            self.equal(unlike_text(one, other), found[0] if found else None)
            self.equal(unlike_text(other=one, one=other), found[0] if found else None)

    def test_empty_text(self):
        self.equal(unlike_text(all_texts(("a",)), Rule(("a",), ((0,),), ())), "")

    def test_shorter_goes_ahead(self):
        one = Rule(("a", "b"), ((1, 2), (3, 3), (3, 3), (3, 3)), ())
        self.equal(unlike_text(one, Rule(one.signs, one.moves, (2, 3))), "b")
        self.equal(unlike_text(one, Rule(one.signs, one.moves, (3,))), "aa")

    def test_none(self):
        rule = Rule(("a", "b"), ((1, 2), (2, 0), (0, 1)), (0, 2))
        self.equal(unlike_text(rule, rule), None)
        self.equal(unlike_text(ring(0, 2, [0]), ring(0, 4, [0, 2])), None)
        self.equal(unlike_text(ring(0, 2, [0]), Rule(("a",), [(1,), (0,), (2,)], (0, 2))), None)

    def test_long(self):
        self.equal(unlike_text(ring(0, 39, [0]), ring(0, 40, [0])), "a" * 39)
        self.equal(unlike_text(ring(0, 39, [38]), Rule(("a",), ((0,),), ())), "a" * 38)
        self.equal(unlike_text(both(ring(0, 5, [0]), ring(0, 8, [7])), Rule(("a",), ((0,),), ())), "a" * 15)
        odd = Rule(("a",), ring(0, 40, []).moves, [39])
        never = Rule(("a",), ring(0, 37, []).moves, [36])
        found = [k for k in range(2000) if (k % 40 == 39) != (k % 37 == 36)]
        self.equal(unlike_text(odd, never), "a" * found[0])

    def test_other_signs(self):
        self.raises(OtherSigns(), unlike_text, all_texts(("a",)), all_texts(("a", "b")))


class TestManyLet(Case):

    def test_counts(self):
        for rule in some_rules(30) + some_rules(10, "abc", 4, 4):
            for length in range(6):
                self.equal(many_let(rule, length),
                           sum(rule.lets(text) for text in texts(rule.signs, length) if len(text) == length))

    def test_long(self):
        self.equal(many_let(all_texts(tuple("0123456789")), 300), 10 ** 300)
        self.equal(many_let(rule=sums(("a", "b"), (1, 0), (1,), 2), length=300), 2 ** 299)
        self.equal(many_let(lengths(("a", "b", "c"), 2, 3), 3), 27)
        self.equal(many_let(lengths(("a", "b", "c"), 2, 3), 4), 0)
        self.equal(many_let(Rule(("a",), ((0,),), ()), 300), 0)

    def test_two_signs_to_one_state(self):
        self.equal([many_let(Rule(("a", "b"), ((1, 1), (1, 1)), (1,)), length) for length in range(4)], [0, 2, 4, 8])

    def test_wrong_length(self):
        for thing in things() + [-1, 301]:
            if type(thing) is not int or not 0 <= thing <= 300:
                self.raises(BadNumber("length"), many_let, all_texts(("a",)), thing)


class TestTextsLet(Case):

    def test_first_ones(self):
        for rule in some_rules(60) + some_rules(20, "abc", 5, 6):
            found = [text for text in texts(rule.signs, 7) if rule.lets(text)]
            for most in (0, 1, 2, 7, 20):
                if len(found) >= most:
                    self.equal(texts_let(rule, most), found[:most])
                elif all(len(text) < 6 for text in found):
                    self.equal(texts_let(rule, most), found)

    def test_none_and_all(self):
        self.equal(texts_let(Rule(("a", "b"), ((1, 0), (0, 1)), ()), 200), [])
        self.equal(texts_let(rule=all_texts(("a", "b")), most=200), texts("ab", 7)[:200])
        self.equal(texts_let(all_texts(("a", "b")), 0), [])

    def test_all_if_there_are_fewer(self):
        self.equal(texts_let(lengths(("a", "b"), 2, 3), 200), texts("ab", 3)[3:])
        self.equal(texts_let(lengths(("a", "b"), 2, 3), 12), texts("ab", 3)[3:])
        self.equal(texts_let(lengths(("a", "b"), 2, 3), 11), texts("ab", 3)[3:14])
        self.equal(texts_let(lengths(("a",), 30, 30), 200), ["a" * 30])
        self.equal(texts_let(lengths(("a", "b"), 0, 0), 5), [""])

    def test_states_that_lead_to_nothing_good(self):
        # From state 2 on nothing good comes any more, however long one goes on.
        rule = Rule(("a", "b"), ((1, 2), (2, 2), (3, 2), (2, 3)), (1,))
        self.equal(texts_let(rule, 200), ["a"])

    def test_good_states_that_no_text_leads_to(self):
        self.equal(texts_let(Rule(("a",), ((0,), (1,)), (1,)), 200), [])

    def test_rare_lengths(self):
        self.equal(texts_let(ring(0, 40, [39]), 200), ["a" * (40 * k + 39) for k in range(200)])
        self.equal(texts_let(ring(5, 7, [2, 11]), 3), ["aa", "a" * 11, "a" * 18])

    def test_long_texts_in_order(self):
        # Pieces of 38 times 9 and then 0 or 1: few texts among many signs, and long ones.
        moves = [[39] * 9 + [state + 1] for state in range(38)] + [[0] * 2 + [39] * 8] + [[39] * 10]
        rule = Rule(tuple("0123456789"), moves, (0,))
        found = texts_let(rule, 200)
        self.equal(found[:4], ["", "9" * 38 + "0", "9" * 38 + "1", ("9" * 38 + "0") * 2])
        self.equal(len(found), 200)
        self.equal(sorted(set(found), key=lambda text: (len(text), text)), found)

    def test_each_list_is_new(self):
        rule = all_texts(("a",))
        texts_let(rule, 3).clear()
        self.equal(texts_let(rule, 3), ["", "a", "aa"])

    def test_wrong_most(self):
        for thing in things() + [-1, 201]:
            if type(thing) is not int or not 0 <= thing <= 200:
                self.raises(BadNumber("most"), texts_let, all_texts(("a",)), thing)


class TestLeastLet(Case):

    def test_first_one(self):
        for rule in some_rules(60, "ab", 4, 13):
            found = [text for text in texts("ab", 5) if rule.lets(text)]
            self.equal(least_let(rule), found[0] if found else None)

    def test_edges(self):
        self.equal(least_let(rule=all_texts(("a",))), "")
        self.equal(least_let(Rule(("a", "b"), ((1, 0), (1, 2), (2, 2)), (2,))), "ab")
        self.equal(least_let(Rule(("a",), ((0,), (1,)), (1,))), None)
        self.equal(least_let(ring(0, 40, [39])), "a" * 39)

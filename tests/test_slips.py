"""Tests of surelabels.slips: points 4.1 and 4.2."""

from surelabels.errors import BadKind, BadRule, BadText
from surelabels.rules import Rule, all_texts, lengths, sums
from surelabels.slips import origins, overlooked, seen_kinds, slipped
from tests.helpers import Case, texts, things
from tests.test_ruleforms import ring, some_rules
from tests.test_rules import not_signs

KINDS = ("one", "swap", "jump", "twin", "lost", "more")


def even():
    """Return the rule that lets the texts with an even number of a."""
    return Rule(("a", "b"), ((1, 0), (0, 1)), (0,))


def slips_as_told(text, kind, signs):
    """Return the texts behind a slip, place by place as the document says."""
    found = set()
    for k in range(len(text) + 1):
        cells = list(text)
        if kind == "one" and k < len(text):
            found |= {text[:k] + sign + text[k + 1:] for sign in signs}
        if kind == "swap" and k + 1 < len(text):
            cells[k], cells[k + 1] = cells[k + 1], cells[k]
            found.add("".join(cells))
        if kind == "jump" and k + 2 < len(text):
            cells[k], cells[k + 2] = cells[k + 2], cells[k]
            found.add("".join(cells))
        if kind == "twin" and k + 1 < len(text) and text[k] == text[k + 1]:
            found |= {text[:k] + sign * 2 + text[k + 2:] for sign in signs}
        if kind == "lost" and k < len(text):
            found.add(text[:k] + text[k + 1:])
        if kind == "more":
            found |= {text[:k] + sign + text[k:] for sign in signs}
    return sorted(found - {text})


def overlooked_as_told(rule, kind, longest):
    """Return the overlooked slip with the least text of at most this length, or None."""
    for text in texts(rule.signs, longest):
        if rule.lets(text):
            for behind in slips_as_told(text, kind, rule.signs):
                if rule.lets(behind):
                    return text, behind
    return None


def not_kinds():
    """Return what is no kind of slip."""
    return [thing for thing in things() if type(thing) is not str or thing not in KINDS] + [
        "One", "swap ", "", "ones", "none", "wrong", b"one", ("one",), ["swap"]]


class TestSlipped(Case):

    def test_each_kind(self):
        signs = ("a", "b", "c")
        self.equal(slipped("ab", "one", signs), ["aa", "ac", "bb", "cb"])
        self.equal(slipped("aab", "swap", signs), ["aba"])
        self.equal(slipped("abc", "swap", signs), ["acb", "bac"])
        self.equal(slipped("abc", "jump", signs), ["cba"])
        self.equal(slipped("abcb", "jump", signs), ["cbab"])
        self.equal(slipped("aab", "twin", signs), ["bbb", "ccb"])
        self.equal(slipped("aaa", "twin", signs), ["abb", "acc", "bba", "cca"])
        self.equal(slipped("aab", "lost", signs), ["aa", "ab"])
        self.equal(slipped("ab", "more", ("a", "b")), ["aab", "aba", "abb", "bab"])

    def test_texts_without_such_a_slip(self):
        for text, kind in [("", "one"), ("", "swap"), ("a", "swap"), ("aaa", "swap"), ("", "jump"), ("ab", "jump"),
                           ("aba", "jump"), ("aaa", "jump"), ("", "twin"), ("a", "twin"), ("abab", "twin"),
                           ("", "lost")]:
            self.equal(slipped(text, kind, ("a", "b")), [])

    def test_one_sign_alone(self):
        self.equal([slipped("aaa", kind, ("a",)) for kind in KINDS], [[], [], [], [], ["aa"], ["aaaa"]])

    def test_empty_text(self):
        self.equal([slipped("", kind, ("a", "b")) for kind in KINDS], [[], [], [], [], [], ["a", "b"]])

    def test_repeated_signs_give_each_text_once(self):
        self.equal(slipped("aaaa", "lost", ("a",)), ["aaa"])
        self.equal(slipped("abab", "swap", ("a", "b")), ["aabb", "abba", "baab"])
        self.equal(slipped("aa", "more", ("a", "b")), ["aaa", "aab", "aba", "baa"])

    def test_all_short_texts(self):
        for signs in ("ab", "abc"):
            for text in texts(signs, 5 if signs == "ab" else 4):
                for kind in KINDS:
                    self.equal(slipped(text, kind, tuple(signs)), slips_as_told(text, kind, signs))

    def test_long_text_of_ten_signs(self):
        text = "0123456789" * 5 + "9988776655"
        for kind in KINDS:
            self.equal(slipped(text, kind, tuple("0123456789")), slips_as_told(text, kind, "0123456789"))

    def test_signs_that_the_text_has_not(self):
        self.equal(slipped("b", "one", ("a", "b", "z")), ["a", "z"])

    def test_lists_and_names(self):
        self.equal(slipped(signs=["a", "b"], kind="one", text="a"), ["b"])

    def test_wrong_signs(self):
        for thing in not_signs():
            self.raises(BadRule("signs"), slipped, "a", "one", thing)

    def test_wrong_text(self):
        for thing in things() + [("a",), ["a"]]:
            if type(thing) is not str:
                self.raises(BadText(-1), slipped, thing, "one", ("a", "b"))
        for text, place in [("c", 0), ("abc", 2), ("aBc", 1), ("a b", 1)]:
            for kind in KINDS:
                self.raises(BadText(place), slipped, text, kind, ("a", "b"))

    def test_wrong_kind(self):
        for thing in not_kinds():
            self.raises(BadKind(), slipped, "a", thing, ("a", "b"))

    def test_order_of_the_errors(self):
        self.raises(BadRule("signs"), slipped, "c", "none", ("b", "a"))
        self.raises(BadRule("signs"), slipped, None, None, None)
        self.raises(BadText(0), slipped, "c", "none", ("a", "b"))
        self.raises(BadText(-1), slipped, None, None, ("a", "b"))

    def test_each_list_is_new(self):
        slipped("ab", "one", ("a", "b")).clear()
        self.equal(slipped("ab", "one", ("a", "b")), ["aa", "bb"])


class TestOverlooked(Case):

    def test_by_hand(self):
        self.equal(overlooked(even(), "one"), None)
        self.equal(overlooked(even(), "swap"), ("aab", "aba"))
        self.equal(overlooked(even(), "jump"), ("aab", "baa"))
        self.equal(overlooked(even(), "twin"), ("aa", "bb"))
        self.equal(overlooked(even(), "lost"), ("b", ""))
        self.equal(overlooked(kind="more", rule=even()), ("", "b"))

    def test_small_rules(self):
        # Two states and two signs: what is overlooked at all is so in a text of at most 9 signs.
        made = some_rules(12, "ab", 2, 31)
        for rule in made:
            for kind in KINDS:
                self.equal(overlooked(rule, kind), overlooked_as_told(rule, kind, 9))
        told = [overlooked(rule, kind) for rule in made for kind in KINDS]
        self.assertTrue(None in told and any(told))

    def test_more_rules(self):
        for rule in some_rules(40, "abc", 5, 17) + some_rules(60, "ab", 6, 18):
            for kind in KINDS:
                longest = 5 if len(rule.signs) == 3 else 7
                told, found = overlooked(rule, kind), overlooked_as_told(rule, kind, longest)
                if found is not None:
                    self.equal(told, found)
                elif told is not None:
                    self.assertGreater(len(told[0]), longest)
                    self.assertTrue(rule.lets(told[0]) and rule.lets(told[1]))
                    self.assertIn(told[1], slips_as_told(told[0], kind, rule.signs))

    def test_sums_never_overlook(self):
        signs = tuple("0123456")
        prime = sums(signs, tuple(range(7)), (1, 2, 4), 7)
        for kind in ("one", "swap", "jump"):
            self.equal(overlooked(prime, kind), None)
        self.equal(overlooked(sums(signs, tuple(range(7)), (1, 1), 7), "swap"), ("16", "61"))

    def test_rings_of_one_sign(self):
        for tail, size, good in [(0, 40, [0, 39]), (0, 40, [0, 38]), (3, 30, [2, 32]), (5, 35, [7, 20, 21]),
                                 (38, 2, [38]), (0, 1, [0]), (0, 5, []), (30, 10, [29, 30])]:
            rule = ring(tail, size, good)
            let = [rule.lets("a" * many) for many in range(90)]
            lost = [many for many in range(1, 90) if let[many] and let[many - 1]]
            more = [many for many in range(89) if let[many] and let[many + 1]]
            self.equal(overlooked(rule, "lost"), ("a" * lost[0], "a" * (lost[0] - 1)) if lost else None)
            self.equal(overlooked(rule, "more"), ("a" * more[0], "a" * (more[0] + 1)) if more else None)
            for kind in ("one", "swap", "jump", "twin"):
                self.equal(overlooked(rule, kind), None)

    def test_long_texts(self):
        for kind, one, other in [("one", "a", "b"), ("one", "ba", "bb"), ("swap", "ab", "ba"), ("jump", "aab", "baa"),
                                 ("twin", "aa", "bb"), ("lost", "ab", "b"), ("more", "b", "ab")]:
            # Both are let only where the number of further a is one less than a multiple of 15 and of 16.
            further = "a" * (15 * 16 - 1)
            self.equal(overlooked(two_rings(one, other, 15, 16), kind), (one + further, other + further))
            self.equal(overlooked(two_rings(one, other, 10, 16, 1), kind), None)

    def test_slip_at_the_ends_of_the_text(self):
        # Only these two texts are let: the slip stands at the first or at the last sign.
        self.equal(overlooked(words("ab", ["aab", "bab"]), "one"), ("aab", "bab"))
        self.equal(overlooked(words("ab", ["baa", "bab"]), "one"), ("baa", "bab"))
        self.equal(overlooked(words("ab", ["abb", "bab"]), "swap"), ("abb", "bab"))
        self.equal(overlooked(words("ab", ["bab", "bba"]), "swap"), ("bab", "bba"))
        self.equal(overlooked(words("ab", ["babb", "bbba"]), "jump"), ("babb", "bbba"))
        self.equal(overlooked(words("ab", ["baa", "bbb"]), "twin"), ("baa", "bbb"))
        self.equal(overlooked(words("ab", ["bab", "ba"]), "lost"), ("bab", "ba"))
        self.equal(overlooked(words("ab", ["bab", "ab"]), "lost"), ("bab", "ab"))
        self.equal(overlooked(words("ab", ["bab", "ba"]), "more"), ("ba", "bab"))
        self.equal(overlooked(words("ab", ["bab", "ab"]), "more"), ("ab", "bab"))

    def test_no_other_kind_is_taken_for_it(self):
        for kind, pair in [("one", ("aab", "bab")), ("swap", ("abba", "baba")), ("jump", ("aabc", "acba")),
                           ("twin", ("aab", "bbb")), ("lost", ("bab", "ab")), ("more", ("ab", "bab"))]:
            rule = words("abc", list(pair))
            self.equal(overlooked(rule, kind), pair)
            for other in KINDS:
                self.equal(overlooked(rule, other), overlooked_as_told(rule, other, 5))

    def test_least_text_behind(self):
        self.equal(overlooked(words("abc", ["b", "a", "c"]), "one"), ("a", "b"))
        self.equal(overlooked(words("abc", ["cab", "bac", "acb"]), "swap"), ("acb", "cab"))
        self.equal(overlooked(words("abc", ["ccb", "aab", "bbb"]), "twin"), ("aab", "bbb"))
        self.equal(overlooked(all_texts(("a", "b", "c")), "twin"), ("aa", "bb"))
        self.equal(overlooked(all_texts(("a", "b", "c")), "more"), ("", "a"))
        self.equal(overlooked(all_texts(("a", "b", "c")), "swap"), ("ab", "ba"))
        self.equal(overlooked(all_texts(("a", "b", "c")), "jump"), ("aab", "baa"))

    def test_nothing_let(self):
        for kind in KINDS:
            self.equal(overlooked(Rule(("a", "b"), ((0, 0),), ()), kind), None)

    def test_many_states_and_signs(self):
        rule = sums(tuple("0123456789"), tuple(range(10)), (1, 3, 7, 9), 9, 5)
        for kind in KINDS:
            told = overlooked(rule, kind)
            self.equal(told, overlooked_as_told(rule, kind, 3) if told is None or len(told[0]) < 4 else told)
            self.assertTrue(told is None or rule.lets(told[0]) and rule.lets(told[1]))

    def test_wrong_kind(self):
        for thing in not_kinds():
            self.raises(BadKind(), overlooked, even(), thing)


def words(signs, let):
    """Return the rule that lets just these texts, its states being their beginnings."""
    starts = sorted({text[:k] for text in let for k in range(len(text) + 1)}, key=lambda text: (len(text), text))
    dead = len(starts)
    moves = [[starts.index(text + sign) if text + sign in starts else dead for sign in signs] for text in starts]
    return Rule(tuple(signs), moves + [[dead] * len(signs)], sorted(starts.index(text) for text in let))


def two_rings(one, other, size, also, more=0):
    """Return the rule that lets a beginning and further a, one less than a multiple of a size, another for each one.

    more is how many further a the other beginning's texts have beyond that.
    """
    starts = sorted({text[:k] for text in (one, other) for k in range(len(text))}, key=lambda text: (len(text), text))
    first, second = len(starts), len(starts) + size
    dead = second + also
    places = {**{text: k for k, text in enumerate(starts)}, one: first, other: second}
    moves = [[places.get(text + sign, dead) for sign in "ab"] for text in starts]
    moves += [[first + (k + 1) % size, dead] for k in range(size)]
    moves += [[second + (k + 1) % also, dead] for k in range(also)]
    return Rule(("a", "b"), moves + [[dead, dead]], sorted([first + size - 1, second + (also - 1 + more) % also]))


class TestSeenKinds(Case):

    def test_by_hand(self):
        self.equal(seen_kinds(even()), ("one",))
        self.equal(seen_kinds(rule=all_texts(("a", "b"))), ())
        self.equal(seen_kinds(all_texts(("a",))), ("one", "swap", "jump", "twin"))
        self.equal(seen_kinds(lengths(("a", "b"), 0, 0)), KINDS)
        self.equal(seen_kinds(lengths(("a", "b"), 1, 1)), ("swap", "jump", "twin", "lost", "more"))
        self.equal(seen_kinds(Rule(("a", "b"), ((0, 0),), ())), KINDS)

    def test_kinds_of_overlooked(self):
        for rule in some_rules(30, "ab", 4, 41):
            self.equal(seen_kinds(rule), tuple(kind for kind in KINDS if overlooked(rule, kind) is None))


class TestOrigins(Case):

    def test_by_hand(self):
        self.equal(origins(even(), "ab", "one"), ["aa", "bb"])
        self.equal(origins(even(), "ab", "swap"), [])
        self.equal(origins(even(), "aab", "swap"), ["aba"])
        self.equal(origins(even(), "aab", "jump"), ["baa"])
        self.equal(origins(even(), "bb", "twin"), ["aa"])
        self.equal(origins(even(), "a", "lost"), ["aa"])
        self.equal(origins(kind="more", text="aba", rule=even()), ["aa"])

    def test_each_kind(self):
        for rule in some_rules(12, "ab", 3, 51) + [all_texts(("a", "b", "c"))]:
            longest = 4 if len(rule.signs) == 2 else 3
            every = texts(rule.signs, longest + 1)
            for kind in KINDS:
                made = {text: slips_as_told(text, kind, rule.signs) for text in every if rule.lets(text)}
                for text in texts(rule.signs, longest):
                    self.equal(origins(rule, text, kind), [first for first in made if text in made[first]])

    def test_fact_of_the_kind_one(self):
        rule = sums(tuple("01234"), (0, 1, 2, 3, 4), (1, 2), 5)
        self.assertIn("one", seen_kinds(rule))
        for text in texts("01234", 3):
            places = [[a != b for a, b in zip(text, first)].index(True) for first in origins(rule, text, "one")]
            self.assertEqual(len(places), len(set(places)))

    def test_the_text_need_not_be_let(self):
        self.equal(even().lets("a"), False)
        self.equal(origins(even(), "a", "one"), ["b"])

    def test_wrong_text(self):
        for thing in things():
            if type(thing) is not str:
                self.raises(BadText(-1), origins, even(), thing, "one")
        for text, place in [("c", 0), ("abc", 2), ("a b", 1)]:
            self.raises(BadText(place), origins, even(), text, "lost")

    def test_wrong_kind(self):
        for thing in not_kinds():
            self.raises(BadKind(), origins, even(), "ab", thing)

    def test_text_goes_ahead_of_kind(self):
        self.raises(BadText(1), origins, even(), "ac", "none")
        self.raises(BadText(-1), origins, even(), None, None)

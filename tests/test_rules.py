"""Tests of surelabels.rules: points 0.3, 0.4, 3.1 and 3.2."""

from surelabels.errors import BadNumber, BadRule, BadSums, BadText, NoSign, NoState
from surelabels.rules import Rule, all_texts, lengths, sums
from tests.helpers import Case, texts, things

EVEN = (("a", "b"), ((1, 0), (0, 1)), (0,))


def even():
    """Return the rule that lets the texts with an even number of a."""
    return Rule(*EVEN)


def not_signs():
    """Return what is no ascending tuple or list of 1 to 10 signs."""
    kept = [thing for thing in things() if not (type(thing) in (tuple, list) and thing in (("a",), ["a"], ("0",)))]
    return kept + [(), [], "ab", ("b", "a"), ("a", "a"), ["a", "b", "b"], ("a", "B"), ("a", "bc"), ("a", ""),
                   ("a", None), ("a", True), ("a", ("b",)), ("a", b"b"), ("a", "0"), tuple("0123456789a"),
                   {"a": 1, "b": 2}, ("a", "\u00e9"), ("0", "\u0661"), ("a", ["b"])]


class TestRule(Case):

    def test_fields(self):
        rule = even()
        self.equal(rule.signs, ("a", "b"))
        self.equal(rule.moves, ((1, 0), (0, 1)))
        self.equal(rule.good, (0,))

    def test_by_name(self):
        self.assertTrue(Rule(good=(0,), moves=((1, 0), (0, 1)), signs=("a", "b")) == even())

    def test_lists_are_as_good(self):
        for signs in (("a", "b"), ["a", "b"]):
            for moves in (((1, 0), (0, 1)), [[1, 0], [0, 1]], ((1, 0), [0, 1]), [(1, 0), (0, 1)]):
                for good in ((0,), [0]):
                    rule = Rule(signs, moves, good)
                    self.assertTrue(rule == even())
                    self.equal((rule.signs, rule.moves, rule.good), EVEN)

    def test_lists_changed_afterwards(self):
        signs, moves, good = ["a", "b"], [[1, 0], [0, 1]], [0]
        rule = Rule(signs, moves, good)
        self.equal((signs, moves, good), (["a", "b"], [[1, 0], [0, 1]], [0]))
        signs.append("c")
        moves[0][0] = 0
        moves.append([0, 0])
        good[0] = 1
        self.equal((rule.signs, rule.moves, rule.good), EVEN)
        self.assertTrue(rule == even())
        self.equal([rule.last("ab"), rule.lets("aa"), rule.move(0, "a")], [1, True, 1])

    def test_one_sign_and_ten(self):
        self.equal(Rule(("z",), ((0,),), ()).signs, ("z",))
        ten = Rule(tuple("0123abcxyz"), (tuple([0] * 10),), (0,))
        self.equal(ten.signs, tuple("0123abcxyz"))

    def test_one_state_and_forty(self):
        self.equal(Rule(("a",), ((0,),), (0,)).moves, ((0,),))
        moves = tuple([((state + 1) % 40,) for state in range(40)])
        rule = Rule(("a",), moves, tuple(range(40)))
        self.equal(rule.moves, moves)
        self.equal(rule.good, tuple(range(40)))
        self.equal([rule.last("a" * 39), rule.last("a" * 40)], [39, 0])
        self.raises(BadRule("moves"), Rule, ("a",), tuple([(0,)] * 41), ())

    def test_no_good_state(self):
        rule = Rule(("a", "b"), ((1, 0), (0, 1)), ())
        self.equal(rule.good, ())
        self.assertFalse(any(rule.lets(text) for text in texts("ab", 3)))

    def test_wrong_signs(self):
        for thing in not_signs():
            self.raises(BadRule("signs"), Rule, thing, ((0,),), ())

    def test_wrong_moves(self):
        for thing in things():
            if not (type(thing) in (tuple, list) and thing in (((0,),), [[0]])):
                self.raises(BadRule("moves"), Rule, ("a",), thing, ())
            if not (type(thing) in (tuple, list) and len(thing) == 1 and type(thing[0]) is int and thing[0] in (0, 1)):
                self.raises(BadRule("moves"), Rule, ("a",), ((0,), thing), ())
                self.raises(BadRule("moves"), Rule, ("a",), [thing, [0]], ())
            if not (type(thing) is int and 0 <= thing <= 1):
                self.raises(BadRule("moves"), Rule, ("a", "b"), ((0, 0), (1, thing)), ())
        for moves in ((), [], ((),), ((0, 0),), ((1,),), ((-1,),), ((0,), (2,)), ((0,), ()), ((0,), (0, 1)), "a"):
            self.raises(BadRule("moves"), Rule, ("a",), moves, ())

    def test_wrong_good(self):
        for thing in things():
            if not (type(thing) in (tuple, list) and list(thing) in ([], [0], [1], [0, 1])
                    and all(type(state) is int for state in thing)):
                self.raises(BadRule("good"), Rule, ("a",), ((1,), (0,)), thing)
            if type(thing) is not int or thing != 1:
                self.raises(BadRule("good"), Rule, ("a",), ((1,), (0,)), (0, thing))
        for good in ((1, 0), (0, 0), (2,), (-1,), [1, 1], (0, 1, 2), (0, True), None, 0):
            self.raises(BadRule("good"), Rule, ("a",), ((1,), (0,)), good)

    def test_order_of_the_errors(self):
        self.raises(BadRule("signs"), Rule, ("b", "a"), ((2, 0),), (1, 0))
        self.raises(BadRule("signs"), Rule, None, None, None)
        self.raises(BadRule("moves"), Rule, ("a", "b"), ((2, 0),), (1, 0))
        self.raises(BadRule("moves"), Rule, ["a"], None, None)
        self.raises(BadRule("good"), Rule, ["a"], [[0]], None)

    def test_equality(self):
        self.assertTrue(even() == even())
        self.assertFalse(even() != even())
        for other in (Rule(("a", "c"), ((1, 0), (0, 1)), (0,)), Rule(("a", "b"), ((1, 0), (0, 0)), (0,)),
                      Rule(("a", "b"), ((1, 0), (0, 1)), (1,)), Rule(("a", "b"), ((1, 0), (0, 1)), ()),
                      Rule(("a", "b"), ((1, 0), (0, 1), (0, 0)), (0,))):
            self.assertTrue(even() != other)
            self.assertFalse(even() == other)


class TestJudging(Case):

    def test_last_and_lets(self):
        for text in texts("ab", 5):
            self.equal(even().last(text), text.count("a") % 2)
            self.equal(even().lets(text), text.count("a") % 2 == 0)

    def test_each_sign_has_its_move(self):
        rule = Rule(("0", "a", "z"), ((1, 2, 3), (1, 1, 1), (2, 2, 0), (3, 0, 3)), (2, 3))
        self.equal([rule.last(text) for text in ("", "0", "a", "z", "az", "za", "zaa", "zz0")],
                   [0, 1, 2, 3, 0, 0, 2, 3])
        self.equal([rule.lets(text) for text in ("", "0", "a", "z", "az", "za", "zaa")],
                   [False, False, True, True, False, False, True])

    def test_by_name(self):
        self.equal([even().last(text="ab"), even().lets(text="ab"), even().move(sign="a", state=1)], [1, False, 0])

    def test_first_wrong_place(self):
        for text, place in [("c", 0), ("abc", 2), ("aBab", 1), ("ab b", 2), ("xyz", 0), ("ab\n", 2), ("acac", 1),
                            ("a" * 59 + "\u00e9", 59)]:
            self.raises(BadText(place), even().last, text)
            self.raises(BadText(place), even().lets, text)

    def test_no_texts(self):
        for thing in things() + [("a",), ["a", "b"], b"ab"]:
            if type(thing) is not str:
                self.raises(BadText(-1), even().last, thing)
                self.raises(BadText(-1), even().lets, thing)

    def test_move(self):
        rule = Rule(("a", "b"), ((1, 2), (1, 0), (2, 1)), ())
        self.equal([[rule.move(state, sign) for sign in "ab"] for state in range(3)], [[1, 2], [1, 0], [2, 1]])

    def test_move_from_no_state(self):
        for thing in things():
            if type(thing) is not int or not 0 <= thing <= 1:
                self.raises(NoState(thing), even().move, thing, "a")
                self.raises(NoState(thing), even().move, thing, "c")
        self.raises(NoState(-1), even().move, -1, "a")
        self.raises(NoState(2), even().move, 2, "a")

    def test_move_by_no_sign(self):
        for thing in things() + ["c", "", "aa", "start"]:
            if type(thing) is not str or thing not in ("a", "b"):
                self.raises(NoSign(thing), even().move, 0, thing)

    def test_state_goes_ahead_of_sign(self):
        self.raises(NoState("a"), even().move, "a", 0)
        self.raises(NoState(True), even().move, True, None)


class TestAllTexts(Case):

    def test_rule(self):
        self.assertTrue(all_texts(("a", "b")) == Rule(("a", "b"), ((0, 0),), (0,)))
        self.equal(all_texts(signs=["a"]).moves, ((0,),))
        self.assertTrue(all(all_texts(("a", "b")).lets(text) for text in texts("ab", 4)))

    def test_wrong_signs(self):
        for thing in not_signs():
            self.raises(BadRule("signs"), all_texts, thing)


def sums_as_told(signs, values, weights, modulus, rest):
    """Return the fields of a rule of sums, state by state, as the document numbers them."""
    many = len(weights)
    moves = tuple(tuple((p + 1) % many * modulus + (s + value * weights[p]) % modulus for value in values)
                  for p in range(many) for s in range(modulus))
    return tuple(signs), moves, tuple(p * modulus + rest for p in range(many))


class TestSums(Case):

    CASES = [("ab", (0, 1), (1,), 2, 0), ("ab", (0, 1), (1,), 2, 1), ("abc", (0, 1, 2), (1, 3), 9, 4),
             ("abc", (-5, 7, -11), (2, -3, 1), 7, 3), ("z", (1,), (1, 2, 3, 4), 5, 0),
             ("ab", (3, 3), (1, 1, 1, 1), 9, 8), ("ab", (10 ** 39, -(10 ** 39) - 7), (10 ** 39 + 1, -3), 8, 5),
             ("0123456789", tuple(range(10)), (1, 3), 9, 0),
             ("ab", (0, 0), (0,), 2, 0)]

    def test_states_as_told(self):
        for signs, values, weights, modulus, rest in self.CASES:
            rule = sums(tuple(signs), values, weights, modulus, rest)
            self.assertIsInstance(rule, Rule)
            self.equal((rule.signs, rule.moves, rule.good), sums_as_told(signs, values, weights, modulus, rest))

    def test_what_it_lets(self):
        for signs, values, weights, modulus, rest in self.CASES[:7]:
            rule = sums(tuple(signs), values, weights, modulus, rest)
            for text in texts(signs, 5):
                total = sum(values[signs.index(sign)] * weights[at % len(weights)] for at, sign in enumerate(text))
                self.equal(rule.lets(text), total % modulus == rest)
                self.equal(rule.last(text), len(text) % len(weights) * modulus + total % modulus)

    def test_rest_is_zero_if_not_told(self):
        self.assertTrue(sums(("a", "b"), (1, 2), (1,), 3) == sums(("a", "b"), (1, 2), (1,), 3, 0))

    def test_lists_and_names(self):
        rule = sums(rest=1, modulus=3, weights=[1, 2], values=[1, 2], signs=["a", "b"])
        self.equal((rule.signs, rule.moves, rule.good), sums_as_told("ab", (1, 2), (1, 2), 3, 1))

    def test_least_and_greatest_modulus(self):
        for modulus in (2, 9):
            self.equal(len(sums(("a",), (1,), (1, 1, 1, 1), modulus, modulus - 1).moves), 4 * modulus)

    def test_wrong_signs(self):
        for thing in not_signs():
            self.raises(BadRule("signs"), sums, thing, None, None, None, None)

    def test_wrong_values(self):
        for thing in things() + [(1, 2, 3), (1,), (1, "2"), (1, True), (1, None), {1: 2, 3: 4}, "12", ((1, 2),)]:
            if not (type(thing) in (tuple, list) and len(thing) == 2 and all(type(n) is int for n in thing)):
                self.raises(BadSums("values"), sums, ("a", "b"), thing, (1,), 3, 0)
            if type(thing) is not int:
                self.raises(BadSums("values"), sums, ("a", "b"), (1, thing), (1,), 3, 0)

    def test_wrong_weights(self):
        for thing in things() + [(), (1, 2, 3, 4, 5), (1, "2"), (True,), [None], {1: 1}]:
            if not (type(thing) in (tuple, list) and 1 <= len(thing) <= 4 and all(type(n) is int for n in thing)):
                self.raises(BadSums("weights"), sums, ("a", "b"), (1, 2), thing, 3, 0)
            if type(thing) is not int:
                self.raises(BadSums("weights"), sums, ("a", "b"), (1, 2), [1, thing], 3, 0)

    def test_wrong_modulus(self):
        for thing in things() + [1, 10, 0, -2, True]:
            if type(thing) is not int or not 2 <= thing <= 9:
                self.raises(BadSums("modulus"), sums, ("a", "b"), (1, 2), (1,), thing, 0)

    def test_wrong_rest(self):
        for thing in things():
            if type(thing) is not int or not 0 <= thing <= 2:
                self.raises(BadSums("rest"), sums, ("a", "b"), (1, 2), (1,), 3, thing)
        for modulus in (2, 5, 9):
            self.raises(BadSums("rest"), sums, ("a", "b"), (1, 2), (1,), modulus, modulus)
            self.raises(BadSums("rest"), sums, ("a", "b"), (1, 2), (1,), modulus, -1)

    def test_order_of_the_errors(self):
        self.raises(BadRule("signs"), sums, (), (), (), 0, -1)
        self.raises(BadSums("values"), sums, ("a",), (), (), 0, -1)
        self.raises(BadSums("weights"), sums, ("a",), (1,), (), 0, -1)
        self.raises(BadSums("modulus"), sums, ("a",), (1,), (1,), 0, -1)
        self.raises(BadSums("rest"), sums, ("a",), (1,), (1,), 2, -1)


class TestLengths(Case):

    def test_rule(self):
        rule = lengths(("a", "b"), 1, 3)
        self.equal((rule.signs, rule.moves, rule.good),
                   (("a", "b"), ((1, 1), (2, 2), (3, 3), (4, 4), (4, 4)), (1, 2, 3)))
        self.assertTrue(lengths(high=3, low=1, signs=["a", "b"]) == rule)

    def test_all_bounds(self):
        for low in range(31):
            for high in range(low, 31):
                rule = lengths(("a",), low, high)
                self.equal(len(rule.moves), high + 2)
                self.equal(rule.good, tuple(range(low, high + 1)))
                self.equal([rule.last("a" * many) for many in range(34)], [min(many, high + 1) for many in range(34)])

    def test_what_it_lets(self):
        for low in range(4):
            for high in range(low, 5):
                for text in texts("ab", 6):
                    self.equal(lengths(("a", "b"), low, high).lets(text), low <= len(text) <= high)

    def test_wrong_signs(self):
        for thing in not_signs():
            self.raises(BadRule("signs"), lengths, thing, None, None)

    def test_wrong_low(self):
        for thing in things() + [-1, 31]:
            if type(thing) is not int or not 0 <= thing <= 30:
                self.raises(BadNumber("low"), lengths, ("a",), thing, 30)
                self.raises(BadNumber("low"), lengths, ("a",), thing, None)

    def test_wrong_high(self):
        for thing in things() + [31, 4]:
            if type(thing) is not int or not 5 <= thing <= 30:
                self.raises(BadNumber("high"), lengths, ("a",), 5, thing)

"""Tests of surelabels.meetings: points 12.3 and 12.4, and 8.4 for them."""

import itertools
import random

from surelabels.books import Book
from surelabels.chains import Chain, with_reader, with_rule, with_wear, with_window
from surelabels.errors import BadNumber, TooWide
from surelabels.meetings import check_meeting_heights, least_meeting, meeting, meeting_heights
from surelabels.mending import is_one, mended
from surelabels.readers import Reader, strict
from surelabels.rules import Rule, all_texts, lengths, sums
from surelabels.wears import Wear, flips, price_of, rare, strokes
from surelabels.windows import middle, same
from tests.helpers import Case, nested, rows, texts, things
from tests.helpers import same as alike
from tests.test_chains import EVEN, chain, ring
from tests.test_mending import DIGITS, digits_chain
from tests.test_prices import far_chain
from tests.test_standings import no_text, trap
from tests.told import STAY, label_of, lets, prices_of_rows, some_chains, state_behind, worn_ways

# A wear of which a start may go to two standing places.
FORKED = Wear((((0, 0, 0, 0), (1, 1, 0, 1), (1, 1, 2, 2)), ((0, 0, 0, 1), (1, 1, 0, 1), (0, 1, 1, 0)),
               ((0, 0, 0, 2), (1, 1, 0, 0), (1, 0, 0, 2))))


def least_as_told(made, longest):
    """Return the least pair (sum, signs) at which two texts of at most this many signs meet, None if none do."""
    found = []
    for length in range(longest + 1):
        prices = {text: prices_of_rows(made.wear, label_of(made.book, text)) for text in texts(made.book.signs, length)
                  if len(text) == length and lets(made.rule, text)}
        for one, other in itertools.combinations(prices, 2):
            found += [(price + prices[other][worn], length) for worn, price in prices[one].items()
                      if worn in prices[other]]
    return min(found, default=None)


def pairs_as_told(wear, one, other, places):
    """Return the dict from pairs of standing places to the least price of wearing two rows to one row."""
    found = {}
    others = worn_ways(wear, other, places[1])
    for (worn, first), price in worn_ways(wear, one, places[0]).items():
        for (made, second), more in others.items():
            if made == worn:
                found[first, second] = min(price + more, found.get((first, second), price + more))
    return found


def hopeful_pairs(rule):
    """Return the set of the pairs of states that texts of one length lead to good ones."""
    reached = {state: [{state}] for state in range(len(rule.moves))}
    for state in reached:
        # The sets of states behind each number of signs: of pairs there are at most 1600.
        for _ in range(len(rule.moves) ** 2):
            reached[state].append({after for here in reached[state][-1] for after in rule.moves[here]})
    good = set(rule.good)
    return {(one, other) for one in reached for other in reached
            if any(first & good and second & good for first, second in zip(reached[one], reached[other]))}


def begins_of_pairs(made):
    """Return the dict from the double standings behind two starts to their least prices."""
    if (0, 0) not in hopeful_pairs(made.rule):
        return {}
    found = pairs_as_told(made.wear, made.book.start, made.book.start, (0, 0))
    return {places + (0, 0, False): price for places, price in found.items()}


def steps_of_pairs(made, standing, hopeful):
    """List the pairs (price, standing) of what comes of two further signs."""
    one_place, other_place, one_state, other_state, unlike = standing
    found = []
    for one, other in itertools.product(made.book.signs, repeat=2):
        states = (state_behind(made.rule, one, one_state), state_behind(made.rule, other, other_state))
        if states in hopeful:
            ways = pairs_as_told(made.wear, made.book.patterns[one], made.book.patterns[other],
                                 (one_place, other_place))
            found += [(price, places + states + (unlike or one != other,)) for places, price in ways.items()]
    return found


def is_paper(made, total, heights):
    """Tell whether a dict fulfils the conditions of the document."""
    hopeful = hopeful_pairs(made.rule)

    def fits(standing, price):
        return heights.get(standing, total) <= price or total <= price

    places, states = len(made.wear.moves), len(made.rule.moves)
    for key, height in heights.items():
        if type(key) is not tuple or [type(part) for part in key] != [int] * 4 + [bool] or type(height) is not int:
            return False
        if not (0 <= min(key) and max(key[:2]) < places and max(key[2:4]) < states and 0 <= height < total):
            return False
        if key[2:4] not in hopeful or key[4] and key[2] in made.rule.good and key[3] in made.rule.good:
            return False
        if not all(fits(then, height + price) for price, then in steps_of_pairs(made, key, hopeful)):
            return False
    return all(fits(standing, price) for standing, price in begins_of_pairs(made).items())


def one_text_each():
    """Return a rule that lets one text of each length: a, b, a, b and so on."""
    return Rule(("a", "b"), ((1, 2), (2, 0), (2, 2)), (0, 1))


def wild_chain(places, states, count=10):
    """Return a chain of digits with a wear of many standing places and a rule of many states."""
    wear = Wear([[(0, 0, 0, (k + 1) % places), (1, 1, 0, (k + 5) % places), (1, 0, k + 1, k), (0, 1, 2, places - 1 - k)]
                 for k in range(places)])
    rule = Rule(DIGITS[:count], [[(3 * state + 7 * sign + 1) % states for sign in range(count)]
                                 for state in range(states)], (0,))
    return digits_chain(count, wear, rule)


def far_like(rule):
    """Return a chain of the one sign a."""
    made = Book({"a": (0, 0, 1)}, (1, 1, 1), (1, 0, 0))
    return Chain(made, rule, flips(1, 1), same(), strict(made))


def ring_of(states):
    """Return the rule that counts the signs a up to a number of states, and lets what leaves none or two of them."""
    return Rule(("a", "b"), [[(k + 1) % states, k] for k in range(states)], (0, 2))


class TestMeeting(Case):

    def fits(self, made, found, least):
        """Check that a meeting is one, at the least sum."""
        total, one, other, worn = found
        self.equal([type(part) for part in found], [int, str, str, tuple])
        self.equal(total, least)
        self.assertLess(one, other)
        self.equal(len(one), len(other))
        self.assertTrue(lets(made.rule, one) and lets(made.rule, other))
        prices = [price_of(made.wear, label_of(made.book, text), worn) for text in (one, other)]
        self.equal(sum(prices), total)

    def test_by_hand(self):
        # Two texts with an even number of a: aa and bb, four cells apart.
        self.equal(least_meeting(chain()), 4)
        self.fits(chain(), meeting(chain()), 4)
        self.equal(meeting(chain())[1:3], ("aa", "bb"))
        free = chain(rule=all_texts(("a", "b")))
        self.equal(least_meeting(chain=free), 2)
        self.equal(meeting(chain=free)[:3], (2, "a", "b"))
        self.equal(least_meeting(with_wear(free, flips(3, 10))), 6)
        self.equal(meeting(with_wear(free, flips(3, 10))), (6, "a", "b", (1, 1, 1, 1, 1, 1, 0, 0, 1)))
        self.equal(least_meeting(with_wear(free, flips(10, 3))), 6)
        self.equal(meeting(with_wear(free, flips(10, 3))), (6, "a", "b", (1, 1, 1, 0, 0, 1, 0, 0, 1)))

    def test_far_books(self):
        self.equal(least_meeting(far_chain(1)), 6)
        self.equal(least_meeting(with_rule(far_chain(1), EVEN)), 12)
        self.equal(least_meeting(far_chain(1, 5, 7)), 30)
        nine = Rule(("a", "b"), [[(k + 1) % 9, k] for k in range(9)], (0,))
        # One text has nine a and the other one none.
        self.equal(least_meeting(with_rule(far_chain(1), nine)), 12)
        self.equal(len(meeting(with_rule(far_chain(1), nine))[1]), 10)

    def test_against_all_pairs_of_short_texts(self):
        met = {}
        for made in some_chains(160, 221, (2, 2, 3)):
            longest = 3 if made.book.width == 2 else 2
            wanted = least_as_told(made, longest)
            least, found = least_meeting(made), meeting(made)
            met[least] = met.get(least, 0) + 1
            if least is None:
                self.equal((found, wanted), (None, None))
                continue
            self.fits(made, found, least)
            if wanted is not None:
                self.assertLessEqual((least, len(found[1])), wanted)
            if len(found[1]) <= longest:
                self.equal((least, len(found[1])), wanted)
        self.assertGreater(len(met), 5)
        self.assertGreater(met[None], 10)
        self.assertGreater(met[0], 5)

    def test_chains_whose_least_meeting_is_0(self):
        free = chain(rule=all_texts(("a", "b")))
        for wear in (flips(0, 4), flips(5, 0), strokes(0, 1), rare(0, 3, 2)):
            self.equal(least_meeting(with_wear(free, wear)), 0)
            self.fits(with_wear(free, wear), meeting(with_wear(free, wear)), 0)
            self.equal(len(meeting(with_wear(free, wear))[1]), 1)
            self.equal(meeting_heights(with_wear(free, wear), 0), {})
            self.equal(meeting_heights(with_wear(free, wear), 1), None)

    def test_no_meeting(self):
        for made in (chain(wear=Wear((STAY,))), chain(rule=no_text()), chain(rule=trap()), chain(rule=one_text_each()),
                     chain(rule=lengths(("a", "b"), 0, 0)), far_like(ring(3, (0, 1)))):
            self.equal(least_meeting(made), None)
            self.equal(meeting(made), None)

    def test_wears_of_several_standing_places(self):
        # What a stroke of two cells covers is equal, whatever it was: one stroke for each label.
        free = chain(rule=all_texts(("a", "b")))
        self.equal(least_meeting(with_wear(free, strokes(5, 2))), 10)
        self.equal(least_meeting(with_wear(free, strokes(5, 1))), 10)
        self.equal(least_meeting(with_wear(far_chain(1), strokes(5, 3))), 10)
        self.equal(least_meeting(with_wear(far_chain(1), strokes(5, 2))), 20)
        self.equal(least_meeting(with_wear(far_chain(1), strokes(5, 1))), 30)
        self.equal(least_meeting(with_wear(far_chain(1), rare(1, 1, 1))), 6)
        # Of three cells side by side a label has only one changed: the other one has two to change.
        self.equal(least_meeting(with_wear(far_chain(1), rare(1, 1, 2))), None)
        for made in (with_wear(far_chain(1), strokes(5, 3)), with_wear(free, FORKED),
                     with_wear(with_rule(far_chain(1), EVEN), strokes(5, 4))):
            self.fits(made, meeting(made), least_meeting(made))

    def test_standing_places_that_come_apart_in_the_start(self):
        for rule in (all_texts(("a", "b")), EVEN, sums(("a", "b"), (1, 2), (1, 2), 3)):
            made = chain(rule=rule, wear=FORKED)
            wanted = least_as_told(made, 3)
            found = meeting(made)
            self.fits(made, found, least_meeting(made))
            self.assertLessEqual((found[0], len(found[1])), wanted)

    def test_the_lesser_text_first(self):
        # The label that comes to the second standing place in the start can only be that of z.
        made = Book({"0": (1, 0), "z": (1, 1)}, (0, 0), (0, 1))
        wear = Wear((((0, 0, 0, 1), (1, 1, 0, 0), (1, 0, 3, 1), (0, 0, 2, 0)), ((0, 0, 0, 1), (1, 1, 0, 1))))
        odd = Rule(("0", "z"), ((1, 1), (0, 0)), (1,))
        for rule in (odd, all_texts(("0", "z")), sums(("0", "z"), (1, 3), (1,), 2, 1)):
            one = Chain(made, rule, wear, same(), strict(made))
            self.fits(one, meeting(one), least_meeting(one))
            self.equal(meeting(one)[1:3], ("0", "z"))

    def test_no_shorter_texts_meet_for_as_much(self):
        # Any number of signs may stand ahead of the ones in which the texts differ.
        for low in range(7):
            made = chain(rule=lengths(("a", "b"), low, 9))
            self.equal(len(meeting(made)[1]), max(low, 1))
            self.equal(meeting(made)[0], 2)

    def test_windows_and_readers_do_not_count(self):
        for made in some_chains(15, 222):
            for other in (with_window(made, same()), with_window(made, middle(2)),
                          with_reader(made, Reader(made.book.width, {}))):
                self.equal(least_meeting(other), least_meeting(made))
                self.equal(meeting(other), meeting(made))

    def test_great_prices(self):
        made = chain(wear=flips(10 ** 39, 10 ** 38), rule=all_texts(("a", "b")))
        self.equal(least_meeting(made), 2 * 10 ** 38)
        paper = meeting_heights(made, 2 * 10 ** 38)
        self.assertIs(check_meeting_heights(made, 2 * 10 ** 38, paper), True)
        self.equal(meeting_heights(made, 2 * 10 ** 38 + 1), None)

    def test_the_same_call_gives_the_same(self):
        for made in some_chains(10, 223):
            self.equal(meeting(made), meeting(made))


class TestFact(Case):

    def told_alone(self, made, least, text, worn):
        """Check that a worn row tells a text alone, if its price is low enough; return whether it is, and above 0."""
        price = price_of(made.wear, label_of(made.book, text), worn)
        if price is None or least is not None and 2 * price >= least:
            return False
        self.equal(mended(made, worn), (price, [text]))
        self.assertIs(is_one(made, worn), True)
        return price > 0

    def test_a_price_below_half_of_the_least_meeting(self):
        told = 0
        for made in some_chains(60, 224, (2, 3)):
            least = least_meeting(made)
            for text in [text for text in texts(made.book.signs, 2) if lets(made.rule, text)]:
                found = sorted(prices_of_rows(made.wear, label_of(made.book, text)))
                for worn in found[::max(len(found) // 20, 1)]:
                    told += self.told_alone(made, least, text, worn)
        self.assertGreater(told, 50)

    def test_wider_books(self):
        chance = random.Random(230)
        for wear in (flips(1, 1), flips(2, 3), strokes(3, 2), rare(1, 1, 2)):
            for rule in (all_texts(("a", "b")), EVEN):
                made = with_wear(with_rule(far_chain(1), rule), wear)
                least = least_meeting(made)
                told = 0
                for _ in range(300):
                    text = "".join(chance.choice("ab") for _ in range(5))
                    row = label_of(made.book, text)
                    worn = list(row)
                    for place in chance.sample(range(len(row)), chance.randint(1, 3)):
                        worn[place] = 1
                    if lets(rule, text):
                        told += self.told_alone(made, least, text, tuple(worn))
                self.assertGreater(told, 20)


class TestHeights(Case):

    def holds(self, made, total):
        """Check that meeting_heights shows a total, and that check_meeting_heights takes what it tells."""
        found = meeting_heights(made, total)
        self.assertIs(type(found), dict)
        self.assertEqual(list(found), sorted(found))
        self.assertTrue(is_paper(made, total, found))
        self.assertIs(check_meeting_heights(made, total, found), True)
        return found

    def test_by_hand(self):
        self.assertEqual(meeting_heights(chain(), 3), {(0, 0, 0, 0, False): 0, (0, 0, 1, 1, False): 0,
                                                       (0, 0, 0, 1, True): 2, (0, 0, 1, 0, True): 2})
        self.equal(meeting_heights(total=5, chain=chain()), None)
        self.assertIs(check_meeting_heights(thing=meeting_heights(chain(), 4), total=4, chain=chain()), True)

    def test_all_totals_to_above_the_least_meeting(self):
        shown = 0
        for made in some_chains(70, 225):
            least = least_meeting(made)
            for total in range(5 if least is None else least + 1):
                shown += len(self.holds(made, total)) > 2
            if least is not None:
                for total in (least + 1, least + 2, 10 ** 39):
                    self.equal(meeting_heights(made, total), None)
        self.assertGreater(shown, 30)

    def test_total_0(self):
        for made in some_chains(10, 226):
            self.equal(meeting_heights(made, 0), {})
            self.assertIs(check_meeting_heights(made, 0, {}), True)
            self.assertIs(check_meeting_heights(made, 0, {(0, 0, 0, 0, False): 0}), False)

    def test_no_meeting_at_all(self):
        for made in (chain(wear=Wear((STAY,))), chain(rule=trap()), chain(rule=one_text_each())):
            self.holds(made, 10 ** 39)
        self.assertEqual(meeting_heights(chain(rule=no_text()), 7), {})
        self.assertIs(check_meeting_heights(chain(rule=no_text()), 7, {}), True)

    def test_standing_places_that_come_apart(self):
        many = 0
        for made in (chain(wear=FORKED), chain(wear=strokes(2, 3)), with_wear(far_chain(1), rare(1, 2, 2))):
            least = least_meeting(made)
            found = self.holds(made, 9 if least is None else least)
            many += sum(key[0] != key[1] and key[4] for key in found)
            # Whichever label is called one: its standings are there, too.
            for one, other, first, second, unlike in found:
                self.equal(found[other, one, second, first, unlike], found[one, other, first, second, unlike])
        self.assertGreater(many, 3)

    def test_each_dict_is_new(self):
        meeting_heights(chain(), 3).clear()
        self.equal(len(meeting_heights(chain(), 3)), 4)


class TestCheck(Case):

    def setUp(self):
        self.chain = with_rule(far_chain(1, 3, 2), Rule(("a", "b"), [[(k + 1) % 3, k] for k in range(3)], (0,)))
        self.chain = with_wear(self.chain, strokes(3, 3))
        self.total = least_meeting(self.chain)
        self.paper = meeting_heights(self.chain, self.total)

    def refused(self, thing, total=None):
        """Check that a thing is no paper."""
        self.assertIs(check_meeting_heights(self.chain, self.total if total is None else total, thing), False)

    def test_the_paper_that_is_spoiled_below(self):
        self.assertGreater(len(self.paper), 8)
        self.assertGreater(len(set(self.paper.values())), 1)
        self.assertIs(check_meeting_heights(self.chain, self.total, self.paper), True)

    def test_an_entry_left_out(self):
        for made, total, paper in ((self.chain, self.total, self.paper), (chain(), 4, meeting_heights(chain(), 4))):
            for standing in paper:
                less = {key: paper[key] for key in paper if key != standing}
                self.assertIs(check_meeting_heights(made, total, less), False)
        self.refused({})

    def test_an_entry_greater(self):
        for standing in self.paper:
            for height in range(self.paper[standing] + 1, self.total):
                self.refused({**self.paper, standing: height})

    def test_an_entry_smaller_or_other(self):
        chance = random.Random(227)
        taken = {True: 0, False: 0}
        for _ in range(150):
            thing = dict(self.paper)
            for standing in chance.sample(list(thing), chance.choice((1, 1, 2))):
                thing[standing] = chance.randrange(self.total)
            wanted = is_paper(self.chain, self.total, thing)
            self.assertIs(check_meeting_heights(self.chain, self.total, thing), wanted)
            taken[wanted] += thing != self.paper
        self.assertGreater(min(taken.values()), 5)

    def test_any_dict_as_the_document_says(self):
        chance = random.Random(228)
        taken = {True: 0, False: 0}
        for made in some_chains(60, 229):
            least = least_meeting(made)
            total = min(4 if least is None else least, 6)
            keys = [(one, other, first, second, unlike) for one in range(len(made.wear.moves))
                    for other in range(len(made.wear.moves)) for first in range(len(made.rule.moves))
                    for second in range(len(made.rule.moves)) for unlike in (False, True)]
            for _ in range(6):
                thing = meeting_heights(made, total)
                for _ in range(chance.randint(1, 2)):
                    key = chance.choice(keys)
                    if chance.random() < 0.3:
                        thing.pop(key, None)
                    else:
                        thing[key] = chance.randint(0, total)
                wanted = is_paper(made, total, thing)
                self.assertIs(check_meeting_heights(made, total, thing), wanted)
                taken[wanted] += 1
        self.assertGreater(min(taken.values()), 20)

    def test_other_dicts_that_keep_the_conditions(self):
        # All standings at the least height that is due for them, and those that none lead to.
        still = chain(wear=Wear((STAY,)), rule=all_texts(("a", "b")))
        self.assertEqual(meeting_heights(still, 3), {(0, 0, 0, 0, False): 0})
        self.assertIs(check_meeting_heights(still, 3, {(0, 0, 0, 0, False): 0}), True)
        self.assertIs(check_meeting_heights(still, 3, {(0, 0, 0, 0, False): 1}), False)
        self.assertIs(check_meeting_heights(still, 3, {(0, 0, 0, 0, False): 0, (0, 0, 0, 0, True): 0}), False)
        states = with_rule(still, Rule(("a", "b"), ((0, 1), (1, 1)), (0,)))
        self.assertIs(check_meeting_heights(states, 3, {(0, 0, 0, 0, False): 0}), True)
        loose = chain(wear=Wear((STAY,)), rule=EVEN)
        paper = meeting_heights(loose, 3)
        self.assertEqual(paper, {(0, 0, 0, 0, False): 0, (0, 0, 1, 1, False): 0})
        # No two labels lead to these, and they are no meetings.
        extra = {(0, 0, 0, 1, True): 2, (0, 0, 1, 0, True): 1}
        self.assertIs(check_meeting_heights(loose, 3, {**paper, **extra}), False)
        # Behind them the same signs are worn alike at no price, so they belong together.
        self.assertIs(check_meeting_heights(loose, 3, {**paper, (0, 0, 0, 1, True): 2, (0, 0, 1, 0, True): 2}), True)
        self.assertIs(check_meeting_heights(loose, 3, {**paper, (0, 0, 0, 1, False): 2, (0, 0, 1, 0, False): 2}), True)

    def test_heights_out_of_bounds_where_all_else_holds(self):
        made = chain(wear=Wear((STAY,)), rule=EVEN)
        paper = meeting_heights(made, 3)
        for height in range(-3, 6):
            thing = {**paper, (0, 0, 0, 1, True): height, (0, 0, 1, 0, True): height}
            self.assertIs(check_meeting_heights(made, 3, thing), 0 <= height < 3)

    def test_heights_lower_than_the_least_prices(self):
        # Standings that cost 2 at the height 1: all that comes of them is dear enough.
        made = with_rule(far_chain(1), EVEN)
        paper = meeting_heights(made, 10)
        lower = {key: max(paper[key] - 1, 0) for key in paper}
        self.assertNotEqual(lower, paper)
        self.assertIs(check_meeting_heights(made, 10, lower), True)
        lowest = {key: 0 for key in paper}
        self.assertIs(check_meeting_heights(made, 10, lowest), is_paper(made, 10, lowest))

    def test_values_of_another_kind(self):
        standing = [key for key in self.paper if self.paper[key] == 0][0]
        for thing in things():
            if not (type(thing) is int and thing == 0):
                self.refused({**self.paper, standing: thing})
        self.refused({**self.paper, standing: False})
        one = chain(wear=flips(1, 1))
        paper = meeting_heights(one, 4)
        self.assertIs(check_meeting_heights(one, 4, {key: paper[key] for key in paper}), True)
        for key in paper:
            self.assertIs(check_meeting_heights(one, 4, {**paper, key: -1}), False)
            self.assertIs(check_meeting_heights(one, 4, {**paper, key: 4}), False)
            self.assertIs(check_meeting_heights(one, 4, {**paper, key: bool(paper[key])}), False)

    def test_keys_that_are_no_double_standings(self):
        wrong = [(0, 0, 0, 0), (0, 0, 0, 0, False, 0), (), 0, None, "00000", (3, 0, 0, 0, False), (0, 3, 0, 0, False),
                 (-1, 0, 0, 0, False), (0, -1, 0, 0, False), (0, 0, 3, 0, False), (0, 0, 0, 3, False),
                 (0, 0, -1, 0, False), (0, 0, 0, -1, False), (0, 0, 0, 0, 2), (0, 0, 0, 0, None), (0, 0, 0, 0, "a"),
                 ("0", 0, 0, 0, False), (0, None, 0, 0, False), (0, 0, (0,), 0, False), (0, 0, 0, "1", True), b"abcde"]
        for key in wrong:
            self.refused({**self.paper, key: self.total - 1})
        # These are equal to standings, but of other kinds.
        kept = {key: height for key, height in self.paper.items() if key != (0, 0, 0, 0, False)}
        for key in ((False, 0, 0, 0, False), (0, False, 0, 0, False), (0, 0, False, 0, False), (0, 0, 0, False, False),
                    (0, 0, 0, 0, 0)):
            self.refused({key: 0, **kept})
        self.assertIs(check_meeting_heights(self.chain, self.total, {(0, 0, 0, 0, False): 0, **kept}), True)

    def test_standings_from_which_nothing_good_comes(self):
        # a leads to the trap, from where no text is let.
        made = chain(rule=Rule(("a", "b"), ((1, 0), (1, 1)), (0,)))
        self.assertEqual(meeting_heights(made, 5), {(0, 0, 0, 0, False): 0})
        for key in ((0, 0, 0, 1, True), (0, 0, 1, 0, True), (0, 0, 1, 1, False), (0, 0, 1, 1, True)):
            self.assertIs(check_meeting_heights(made, 5, {(0, 0, 0, 0, False): 0, key: 4}), False)
        # One label would need an even number of further signs, the other one an odd number.
        odd = far_like(ring(2))
        paper = meeting_heights(odd, 5)
        self.assertEqual(paper, {(0, 0, 0, 0, False): 0, (0, 0, 1, 1, False): 0})
        for key in ((0, 0, 0, 1, False), (0, 0, 1, 0, True)):
            self.assertIs(check_meeting_heights(odd, 5, {**paper, key: 4}), False)

    def test_states_that_come_to_unlike_good_ones(self):
        # One a leads from 3 to 0, and from 1 to 2, and both are good.
        made = far_like(ring(4, (0, 2)))
        paper = meeting_heights(made, 3)
        pairs = [(0, 2), (1, 3), (2, 0), (3, 1)]
        thing = {**paper, **{(0, 0, one, other, False): 2 for one, other in pairs}}
        self.assertIs(check_meeting_heights(made, 3, thing), True)
        for one, other in pairs:
            less = {key: thing[key] for key in thing if key != (0, 0, one, other, False)}
            self.assertIs(check_meeting_heights(made, 3, less), False)
            self.assertIs(check_meeting_heights(made, 3, {**paper, (0, 0, one, other, True): 2}), False)

    def test_an_unlike_one_with_two_good_states(self):
        made = chain()
        paper = meeting_heights(made, 4)
        self.assertNotIn((0, 0, 0, 0, True), paper)
        for height in range(4):
            self.assertIs(check_meeting_heights(made, 4, {**paper, (0, 0, 0, 0, True): height}), False)

    def test_no_dicts(self):
        for thing in things() + [list(self.paper.items()), tuple(self.paper), [self.paper]]:
            if thing != {}:
                self.refused(thing)
        self.assertIs(check_meeting_heights(chain(rule=no_text()), 3, []), False)
        for depth in (1, 30):
            self.refused(nested(self.paper, depth, lambda x: [x]))
            self.refused({(0, 0, 0, 0, False): nested(0, depth, lambda x: (x,))})

    def test_what_is_passed_stays_as_it_is(self):
        before = dict(self.paper)
        check_meeting_heights(self.chain, self.total, self.paper)
        self.assertTrue(alike(before, self.paper))

    def test_for_another_total(self):
        for total in range(self.total + 3):
            wanted = is_paper(self.chain, total, self.paper)
            self.assertIs(check_meeting_heights(self.chain, total, self.paper), wanted)
        self.refused(self.paper, self.total + 1)
        self.refused(self.paper, 10 ** 39)


class TestErrors(Case):

    def test_wrong_totals(self):
        for thing in [thing for thing in things() if not (type(thing) is int and thing >= 0)] + [True, -1]:
            self.raises(BadNumber("total"), meeting_heights, chain(), thing)
            self.raises(BadNumber("total"), check_meeting_heights, chain(), thing, {})
            self.raises(BadNumber("total"), check_meeting_heights, chain(), thing, None)

    def test_just_60(self):
        for places, states in ((6, 10), (2, 30), (3, 20), (5, 12)):
            made = wild_chain(places, states, 4)
            least = least_meeting(made)
            self.assertIsNotNone(least)
            self.equal(meeting(made)[0], least)
            paper = meeting_heights(made, least)
            self.assertIs(check_meeting_heights(made, least, paper), True)
            self.equal(meeting_heights(made, least + 1), None)
        one = far_like(ring(40))
        self.equal(least_meeting(one), None)

    def test_above_60(self):
        for places, states in ((6, 11), (2, 31), (4, 16), (6, 40)):
            made = wild_chain(places, states, 2)
            self.raises(TooWide(), least_meeting, made)
            self.raises(TooWide(), meeting, made)
            self.raises(TooWide(), meeting_heights, made, 0)
            self.raises(TooWide(), meeting_heights, made, 10 ** 39)
            self.raises(BadNumber("total"), meeting_heights, made, -1)
            self.raises(BadNumber("total"), check_meeting_heights, made, -1, {})
            self.assertIs(check_meeting_heights(made, 0, {}), True)
            self.assertIs(check_meeting_heights(made, 3, {}), False)
            self.assertIs(check_meeting_heights(made, 3, None), False)

    def test_a_paper_of_a_wide_chain_is_judged(self):
        # All but one label cannot be worn at all, so that the two starts alone lead on.
        made = Book({"a": (0, 0, 1), "b": (0, 1, 0)}, (1, 1, 1), (1, 0, 0))
        rule = Rule(("a", "b"), [[k, k] for k in range(40)], (0,))
        wide = Chain(made, rule, Wear((STAY, STAY)), same(), strict(made))
        self.raises(TooWide(), meeting_heights, wide, 3)
        self.assertIs(check_meeting_heights(wide, 3, {(0, 0, 0, 0, False): 0}), True)
        self.assertIs(check_meeting_heights(wide, 3, {(0, 0, 0, 0, False): 1}), False)

    def test_the_sizes_of_other_functions_do_not_count(self):
        # The window and the width make a chain too wide for least_price, but not for these.
        row = dict(zip("ab", rows(6)[20:22]))
        made = Book(row, (1,) * 6, (0,) * 6)
        wide = Chain(made, ring_of(40), flips(1, 1), middle(3), strict(made))
        self.equal(least_meeting(wide), 2 * sum(x != y for x, y in zip(row["a"], row["b"])))

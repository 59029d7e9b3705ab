"""Worn rows that can be of two texts, and what shows that none are for less (document, points 12.3 and 12.4)."""

from surelabels.alike import Alike
from surelabels.cells import row_with
from surelabels.common import COST, GOAL, check_from, cheapest_from, is_within, met_from
from surelabels.errors import TooWide

# The most that the wear's standing places times the rule's states may be.
WIDEST = 60


def _check_width(chain):
    """Raise TooWide for a chain with too many double standings."""
    if len(chain.wear.moves) * len(chain.rule.moves) > WIDEST:
        raise TooWide()


def _hopeful_pairs(rule):
    """Return a dict with the pairs of states that texts of one length lead to good ones."""
    ahead = [[] for _ in rule.moves]
    for state, row in enumerate(rule.moves):
        for after in row:
            if state not in ahead[after]:
                ahead[after].append(state)
    ends = [(one, other) for one in rule.good for other in rule.good]
    return met_from(ends, lambda pair: [(one, other) for one in ahead[pair[0]] for other in ahead[pair[1]]])


class Doubles:
    """The double standings of a chain, and what each leads to.

    Tables of what was asked for are kept, as it is asked for again and again.
    """

    def __init__(self, chain):
        self._chain = chain
        self._alike = Alike(chain.wear)
        self._hopeful = _hopeful_pairs(chain.rule)
        self._signs = {}
        self._blocks = {}

    def is_standing(self, thing):
        """Tell whether a thing is a double standing from which something good can come."""
        if not isinstance(thing, tuple) or len(thing) != 5:
            return False
        places, states = len(self._chain.wear.moves), len(self._chain.rule.moves)
        if not all([is_within(place, 0, places - 1) for place in thing[:2]]):
            return False
        if not all([is_within(state, 0, states - 1) for state in thing[2:4]]):
            return False
        return isinstance(thing[4], bool) and thing[2:4] in self._hopeful

    def is_meeting(self, standing):
        """Tell whether two unlike texts that are let lead to a double standing."""
        good = self._chain.rule.good
        return standing[4] and standing[2] in good and standing[3] in good

    def _worn(self, one, other, places):
        """List the triples (price, places, number of the worn row) behind two marks' blocks, the cheapest first."""
        key = (one, other, places)
        if key not in self._blocks:
            book = self._chain.book
            ways = self._alike.behind(places, book.pattern(one), book.pattern(other))
            self._blocks[key] = sorted([(ways[then][0], then, ways[then][1]) for then in ways])
        return self._blocks[key]

    def _signs_from(self, states):
        """List the triples (one sign, other sign, states behind them) from a pair of states."""
        if states not in self._signs:
            rule = self._chain.rule
            ones = list(zip(rule.signs, rule.moves[states[0]]))
            others = list(zip(rule.signs, rule.moves[states[1]]))
            self._signs[states] = [(one, other, (first, second)) for one, first in ones for other, second in others
                                   if (first, second) in self._hopeful]
        return self._signs[states]

    def firsts(self):
        """List what stands behind the starts, as onward does, with signs that are none yet."""
        if (0, 0) not in self._hopeful:
            return []
        ways = self._worn("start", "start", (0, 0))
        return [(price, places + (0, 0, False), ("", ""), number) for price, places, number in ways]

    def onward(self, standing, below):
        """List what comes of two further signs for a price below a number: (price, standing, signs, worn number).

        The signs are a pair, and the worn number is that of the row to which their blocks are worn.
        """
        found = []
        for one, other, states in self._signs_from(standing[2:4]):
            unlike = standing[4] or one != other
            for price, places, number in self._worn(one, other, standing[:2]):
                if below is not None and price >= below:
                    break
                found.append((price, places + states + (unlike,), (one, other), number))
        return found


def _swapped(standing):
    """Return the double standing of the same two labels, the other one first."""
    one, other, first, second, unlike = standing
    return (other, one, second, first, unlike)


def _merged(standing):
    """Return one double standing for both that stand for the same two labels."""
    return min(standing, _swapped(standing))


def _next_ways(doubles, here):
    """List the pairs (cost, next) behind a double standing, the goal if two texts meet here."""
    found = [(price * COST + 1, _merged(standing)) for price, standing, _, _ in doubles.onward(here, None)]
    return found + [(0, GOAL)] if doubles.is_meeting(here) else found


def _search_meetings(doubles, limit):
    """Return the search for a meeting at a cost below a limit, through merged double standings."""
    firsts = [(price * COST, _merged(standing)) for price, standing, _, _ in doubles.firsts()]
    return cheapest_from(firsts, lambda here: _next_ways(doubles, here), GOAL, limit)


def least_meeting(chain):
    """Return the least sum at which two texts meet, over all texts and all worn rows, None if none do."""
    _check_width(chain)
    search = _search_meetings(Doubles(chain), None)
    return search.costs[GOAL] // COST if GOAL in search.costs else None


def _ways_to(doubles, search):
    """List the ways, as onward tells them, on the cheapest way to the goal."""
    told = []
    cost = 0
    ways = doubles.firsts()
    for merged in search.way_to(GOAL):
        price = search.costs[merged] // COST - cost
        # Merged or not, a standing leads on for the same prices, so a way of this price is there.
        told.append([way for way in ways if way[0] == price and _merged(way[1]) == merged][0])
        cost += price
        ways = doubles.onward(told[-1][1], None)
    return told


def meeting(chain):
    """Return (sum, one, other, worn) of two texts that meet at the least sum, with the fewest signs, or None."""
    _check_width(chain)
    doubles = Doubles(chain)
    search = _search_meetings(doubles, None)
    if GOAL not in search.costs:
        return None
    ways = _ways_to(doubles, search)
    texts = sorted(["".join([signs[place] for _, _, signs, _ in ways]) for place in (0, 1)])
    worn = [cell for _, _, _, number in ways for cell in row_with(number, chain.book.width)]
    # Each cell of the stops stays at the price 0.
    return (search.costs[GOAL] // COST, texts[0], texts[1], tuple(worn) + chain.book.stop)


def meeting_heights(chain, total):
    """Return the heights that show that no two texts meet for less than a total, None if some do."""
    check_from(total, 0, "total")
    _check_width(chain)
    search = _search_meetings(Doubles(chain), total * COST)
    if GOAL in search.costs:
        return None
    found = {}
    for standing in search.costs:
        found[standing] = found[_swapped(standing)] = search.costs[standing] // COST
    return {standing: found[standing] for standing in sorted(found)}


def _covers(heights, height, ways, total):
    """Tell whether heights are low enough for all that ways lead to from a height; none is above the total."""
    return all([heights.get(way[1], total) <= height + way[0] for way in ways])


def check_meeting_heights(chain, total, thing):
    """Tell whether a thing is a dict of heights that shows that no two texts meet for less than a total."""
    check_from(total, 0, "total")
    if not isinstance(thing, dict):
        return False
    doubles = Doubles(chain)
    for standing in thing:
        if not doubles.is_standing(standing) or not is_within(thing[standing], 0, total - 1):
            return False
        if doubles.is_meeting(standing):
            return False
    if not _covers(thing, 0, doubles.firsts(), total):
        return False
    for standing in thing:
        if not _covers(thing, thing[standing], doubles.onward(standing, total - thing[standing]), total):
            return False
    return True

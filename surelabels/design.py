"""What is best: chains, windows and sets of patterns (document, points 13.1, 13.3 and 13.4)."""

from itertools import combinations

from surelabels.alike import Alike
from surelabels.cells import apart, is_row
from surelabels.chains import KINDS, Chain, with_window
from surelabels.common import check_from, check_kind, check_within, is_from, items_of, list_of
from surelabels.errors import BadList, BadWear
from surelabels.prices import least_price
from surelabels.wears import Wear
from surelabels.windows import Window, behind, same


def _is_greater(one, other):
    """Tell whether a price is greater than another one, None being greater than all numbers."""
    if one is None or other is None:
        return other is not None
    return one > other


def strongest(chains, kind):
    """Return the pair (price, index) of the first chain whose least price of a kind is the greatest."""
    things = list_of(chains, 1, 8)
    for index, thing in enumerate(things):
        if not isinstance(thing, Chain):
            raise BadList(index)
    check_kind(kind, KINDS)
    prices = [least_price(chain, kind) for chain in things]
    best = 0
    for index, price in enumerate(prices):
        if _is_greater(price, prices[best]):
            best = index
    return (prices[best], best)


def _offers_of(thing):
    """Return 1 to 4 pairs (window, cost) as tuples, or raise BadList."""
    offers = [items_of(pair) for pair in list_of(thing, 1, 4)]
    for index, pair in enumerate(offers):
        if pair is None or len(pair) != 2 or not isinstance(pair[0], Window) or not is_from(pair[1], 0):
            raise BadList(index)
    return offers


def _choices(offers, widest):
    """List the triples (cost, number of indexes, choice), in order, of the choices of a radius of at most widest."""
    indexes = list(range(len(offers)))
    choices = [()] + [(one,) for one in indexes] + [(one, other) for one in indexes for other in indexes]
    return sorted([(sum([offers[index][1] for index in choice]), len(choice), choice) for choice in choices
                   if sum([offers[index][0].radius for index in choice]) <= widest])


def cheapest_windows(chain, offers, kind, price):
    """Return the pair (cost, choice) of the first choice whose window makes a kind cost at least a price, or None."""
    pairs = _offers_of(offers)
    check_kind(kind, KINDS)
    check_from(price, 0, "price")
    for cost, _, choice in _choices(pairs, min(3, chain.book.width)):
        window = same()
        for index in choice:
            window = behind(window, pairs[index][0])
        if not _is_greater(price, least_price(with_window(chain, window), kind)):
            return (cost, choice)
    return None


def _check_wear(thing):
    """Raise BadWear for what is no wear."""
    if not isinstance(thing, Wear):
        raise BadWear(-1, -1)


def _gap(alike, one, other):
    """Return the least sum of the prices of one worn row for two rows, None if there is no such worn row."""
    ways = alike.behind((0, 0), one, other)
    return min([ways[places][0] for places in ways], default=None)


def gap(wear, one, other):
    """Return the gap of two rows of one length, None if no worn row has a price for both."""
    _check_wear(wear)
    # What has no number of unlike places has no gap.
    apart(one, other)
    return _gap(Alike(wear), one, other)


def _check_rows(things):
    """Raise BadList for the first thing that is no row of 1 to 6 cells, as many as the first, or stands there twice."""
    for index, thing in enumerate(things):
        if not is_row(thing) or not 1 <= len(thing) <= 6 or len(thing) != len(things[0]) or thing in things[:index]:
            raise BadList(index)


def _least_gap(gaps, chosen):
    """Return the least of the gaps of any two of some chosen rows."""
    found = [gaps[one, other] for one, other in combinations(list(chosen), 2) if gaps[one, other] is not None]
    return min(found, default=None)


def spread_rows(rows, count, wear):
    """Return the pair (gap, indexes) of the first `count` rows any two of which have a gap as great as can be."""
    things = list_of(rows, 2, 10)
    _check_rows(things)
    check_within(count, 2, len(things), "count")
    _check_wear(wear)
    alike = Alike(wear)
    gaps = {}
    for one, other in combinations(range(len(things)), 2):
        gaps[one, other] = _gap(alike, things[one], things[other])
    best = None
    # The count is an integer; combinations takes only what is plainly one.
    for chosen in combinations(range(len(things)), int(count)):
        least = _least_gap(gaps, chosen)
        if best is None or _is_greater(least, best[0]):
            best = (least, chosen)
    return best

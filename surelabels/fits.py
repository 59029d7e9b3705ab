"""The texts whose labels fit worn rows of one length (document, points 12.1, 12.2 and 14.1)."""

from surelabels.cells import blocks, is_row
from surelabels.tables import Tables

# How many texts are told at most.
MOST_TEXTS = 500


def is_fit_row(chain, thing):
    """Tell whether a thing is a row of as many cells as a label of a chain can have."""
    width = chain.book.width
    return is_row(thing) and len(thing) % width == 0 and len(thing) >= 2 * width


class Scan:
    """A worn row, and what labels of its length cost for it, block by block.

    What counts behind some blocks is a *front*: the tuple of the pairs of a standing place of the
    wear and how much dearer it is than the cheapest one, ascending.
    """

    def __init__(self, chain, row):
        self._book = chain.book
        self._wear = chain.wear
        self._blocks = blocks(row, chain.book.width)
        self._ways = {}
        self._fronts = {}
        self._rests = self._all_left(chain.rule)

    def many_signs(self):
        """Return how many signs the texts have."""
        return len(self._blocks) - 2

    def many_places(self):
        """Return how many standing places the wear has."""
        return len(self._wear.moves)

    def dearest(self):
        """Return a price that the least price of no label is above."""
        dearest = max([price for moves in self._wear.moves for _, _, price, _ in moves])
        return dearest * self._book.width * len(self._blocks)

    def worn_from(self, place, mark, index):
        """Return the dict of standing places and their prices behind a mark's block of an index, from a place on."""
        key = (place, mark, self._blocks[index])
        if key not in self._ways:
            prices = {place: 0}
            for cell, made in zip(self._book.pattern(mark), self._blocks[index]):
                prices = self._wear.worn_on(prices, cell, made)
            self._ways[key] = prices
        return self._ways[key]

    def led(self, front, mark, index):
        """Return the pair (price, front) behind a mark's block of an index, None if it cannot be worn so."""
        key = (front, mark, self._blocks[index])
        if key not in self._fronts:
            prices = {}
            for place, price in front:
                ways = self.worn_from(place, mark, index)
                for after in ways:
                    prices[after] = min(price + ways[after], prices.get(after, price + ways[after]))
            least = min(prices.values(), default=None)
            dearer = tuple([(place, prices[place] - least) for place in sorted(prices)])
            self._fronts[key] = (least, dearer) if prices else None
        return self._fronts[key]

    def _all_left(self, rule):
        """Return, for each number of signs and each state, the least prices of the rest by standing places."""
        ends = self.behind_stop()
        left = [[ends if state in rule.good else {} for state in range(len(rule.moves))]]
        for index in reversed(range(1, len(self._blocks) - 1)):
            left.append([self._behind_signs(rule.signs, row, index, left[-1]) for row in rule.moves])
        return left[::-1]

    def behind_stop(self):
        """Return the least prices of the stop by standing places."""
        prices = {place: self.worn_from(place, "stop", -1) for place in range(self.many_places())}
        return {place: min(prices[place].values()) for place in prices if prices[place]}

    def _behind_signs(self, signs, row, index, left):
        """Return the least prices of the rest, from the block of an index on, by standing places.

        The signs lead to the states of the row, and left has the least prices of what comes then.
        """
        least = {}
        for sign, state in zip(signs, row):
            if left[state]:
                for place in range(self.many_places()):
                    price = self._least_then(self.worn_from(place, sign, index), left[state])
                    if price is not None and (place not in least or price < least[place]):
                        least[place] = price
        return least

    def _least_then(self, prices, left):
        """Return the least sum of the price of a standing place and of the rest from there, None if there is none."""
        return min([prices[place] + left[place] for place in prices if place in left], default=None)

    def left(self, front, state, many):
        """Return the least price of the rest behind a front and many signs that led to a state, or None."""
        return self._least_then(dict(front), self._rests[many][state])


class Fits:
    """The texts that a chain's rule lets whose labels can be worn to each of some scans of one length.

    What counts behind some signs is a *node*: the tuple of the fronts of the scans, and the state of the rule.
    """

    def __init__(self, chain, scans):
        self._rule = chain.rule
        self._scans = scans
        self._many = scans[0].many_signs()

    def _led(self, fronts, mark, index):
        """Return the pair (price, fronts) of the scans together behind a mark's block of an index, or None."""
        ways = [scan.led(front, mark, index) for scan, front in zip(self._scans, fronts)]
        if None in ways:
            return None
        return (sum([price for price, _ in ways]), tuple([front for _, front in ways]))

    def left(self, node, many):
        """Return a price that the rest behind a node costs at least, of one scan just the least; None for no rest."""
        fronts, state = node
        prices = [scan.left(front, state, many) for scan, front in zip(self._scans, fronts)]
        return None if None in prices else sum(prices)

    def _first(self):
        """Return the pair (price, node) behind the start, None if it cannot be worn so."""
        way = self._led((((0, 0),),) * len(self._scans), "start", 0)
        return None if way is None else (way[0], (way[1], 0))

    def bound(self):
        """Return a price that each text costs at least, of one scan just the least; None if there is no text."""
        first = self._first()
        if first is None:
            return None
        left = self.left(first[1], 0)
        return None if left is None else first[0] + left

    def _onward(self, node, many):
        """List the triples (sign, price, node) behind one more sign."""
        fronts, state = node
        ways = [(sign, after, self._led(fronts, sign, many + 1))
                for sign, after in zip(self._rule.signs, self._rule.moves[state])]
        return [(sign, way[0], (way[1], after)) for sign, after, way in ways if way is not None]

    def _longer(self, found, many, rests, most):
        """Return the beginnings with one more sign that a rest can keep at a price of at most `most`.

        Beginnings are a dict from nodes to the lists of the pairs (price, text) that lead to them.
        """
        longer = {}
        for node in found:
            for sign, price, then in self._onward(node, many):
                left = rests.left(then, many + 1)
                if left is not None:
                    enough = most - price - left
                    kept = [(cost + price, text + sign) for cost, text in found[node] if cost <= enough]
                    if kept:
                        longer.setdefault(then, []).extend(kept)
        return longer

    def _told(self, rests, most, limit):
        """List, ascending, the pairs (price, text) of a price of at most `most`; None if a limit is passed.

        It is passed where more beginnings of one length are kept, by what rests tells of the prices
        of rests: if these are the least ones just so, each beginning becomes at least one text.
        """
        cost, node = self._first()
        found = {node: [(cost, "")]}
        for many in range(self._many):
            found = self._longer(found, many, rests, most)
            if sum([len(found[here]) for here in found]) > limit:
                return None
        return sorted([(price + self.left(here, self._many), text) for here in found for price, text in found[here]])

    def texts(self, most, limit):
        """List, ascending, the pairs (price, text) of a price of at most `most`; None for more than a limit."""
        bound = self.bound()
        if bound is None or bound > most:
            return []
        if len(self._scans) == 1:
            return self._told(self, most, limit)
        # If the scans hardly differ, what each one tells by itself keeps few beginnings, and tables take longer.
        found = self._told(self, most, MOST_TEXTS)
        if found is None:
            return self._told(Tables(self._rule, self._scans, most), most, limit)
        return found if len(found) <= limit else None

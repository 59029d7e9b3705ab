"""The texts whose labels fit worn rows of one length (document, points 12.1, 12.2 and 14.1)."""

from surelabels.cells import blocks, is_row

# How many texts are told at most.
MOST_TEXTS = 500


def is_fit_row(chain, thing):
    """Tell whether a thing is a row of as many cells as a label of a chain can have."""
    width = chain.book.width
    return is_row(thing) and len(thing) % width == 0 and len(thing) >= 2 * width


class Scan:
    """A worn row, and what labels of its length cost for it, block by block.

    What counts behind some blocks is a *front*: the tuple of the pairs of a standing place of the
    wear and how much dearer it is than the cheapest one, ascending.
    """

    def __init__(self, chain, row):
        self._book = chain.book
        self._wear = chain.wear
        self._blocks = blocks(row, chain.book.width)
        self._ways = {}
        self._fronts = {}
        self._rests = self._all_left(chain.rule)

    def many_signs(self):
        """Return how many signs the texts have."""
        return len(self._blocks) - 2

    def _worn_from(self, place, mark, index):
        """Return the dict of standing places and their prices behind a mark's block of an index, from a place on."""
        key = (place, mark, self._blocks[index])
        if key not in self._ways:
            prices = {place: 0}
            for cell, made in zip(self._book.pattern(mark), self._blocks[index]):
                prices = self._wear.worn_on(prices, cell, made)
            self._ways[key] = prices
        return self._ways[key]

    def led(self, front, mark, index):
        """Return the pair (price, front) behind a mark's block of an index, None if it cannot be worn so."""
        key = (front, mark, self._blocks[index])
        if key not in self._fronts:
            prices = {}
            for place, price in front:
                ways = self._worn_from(place, mark, index)
                for after in ways:
                    prices[after] = min(price + ways[after], prices.get(after, price + ways[after]))
            least = min(prices.values(), default=None)
            dearer = tuple([(place, prices[place] - least) for place in sorted(prices)])
            self._fronts[key] = (least, dearer) if prices else None
        return self._fronts[key]

    def _all_left(self, rule):
        """Return, for each number of signs and each state, the least prices of the rest by standing places."""
        ends = self._behind_stop()
        left = [[ends if state in rule.good else {} for state in range(len(rule.moves))]]
        for index in reversed(range(1, len(self._blocks) - 1)):
            left.append([self._behind_signs(rule.signs, row, index, left[-1]) for row in rule.moves])
        return left[::-1]

    def _places(self):
        """Return the standing places of the wear."""
        return list(range(len(self._wear.moves)))

    def _behind_stop(self):
        """Return the least prices of the stop by standing places."""
        prices = {place: self._worn_from(place, "stop", -1) for place in self._places()}
        return {place: min(prices[place].values()) for place in prices if prices[place]}

    def _behind_signs(self, signs, row, index, left):
        """Return the least prices of the rest, from the block of an index on, by standing places.

        The signs lead to the states of the row, and left has the least prices of what comes then.
        """
        least = {}
        for sign, state in zip(signs, row):
            if left[state]:
                for place in self._places():
                    price = self._least_then(self._worn_from(place, sign, index), left[state])
                    if price is not None and (place not in least or price < least[place]):
                        least[place] = price
        return least

    def _least_then(self, prices, left):
        """Return the least sum of the price of a standing place and of the rest from there, None if there is none."""
        return min([prices[place] + left[place] for place in prices if place in left], default=None)

    def left(self, front, state, many):
        """Return the least price of the rest behind a front and many signs that led to a state, or None."""
        return self._least_then(dict(front), self._rests[many][state])


class Fits:
    """The texts that a chain's rule lets whose labels can be worn to each of some scans of one length.

    What counts behind some signs is a *node*: the tuple of the fronts of the scans, and the state of the rule.
    """

    def __init__(self, chain, scans):
        self._rule = chain.rule
        self._scans = scans
        self._many = scans[0].many_signs()

    def _led(self, fronts, mark, index):
        """Return the pair (price, fronts) of the scans together behind a mark's block of an index, or None."""
        ways = [scan.led(front, mark, index) for scan, front in zip(self._scans, fronts)]
        if None in ways:
            return None
        return (sum([price for price, _ in ways]), tuple([front for _, front in ways]))

    def _behind(self, node, many):
        """Return a price that the rest behind a node costs at least, of one scan just the least; None for no rest."""
        fronts, state = node
        prices = [scan.left(front, state, many) for scan, front in zip(self._scans, fronts)]
        return None if None in prices else sum(prices)

    def _first(self):
        """Return the pair (price, node) behind the start, None if it cannot be worn so."""
        way = self._led((((0, 0),),) * len(self._scans), "start", 0)
        return None if way is None else (way[0], (way[1], 0))

    def bound(self):
        """Return a price that each text costs at least, of one scan just the least; None if there is no text."""
        first = self._first()
        if first is None:
            return None
        left = self._behind(first[1], 0)
        return None if left is None else first[0] + left

    def _onward(self, node, many):
        """List the triples (sign, price, node) behind one more sign."""
        fronts, state = node
        ways = [(sign, after, self._led(fronts, sign, many + 1))
                for sign, after in zip(self._rule.signs, self._rule.moves[state])]
        return [(sign, way[0], (way[1], after)) for sign, after, way in ways if way is not None]

    def _fair_ways(self, node, many, most):
        """List the triples onward from a node behind which the rest may cost at most `most`."""
        fair = []
        for sign, price, then in self._onward(node, many):
            left = self._behind(then, many + 1)
            if left is not None and price + left <= most:
                fair.append((sign, price, then))
        return fair

    def _all_ways(self, cost, node, most, limit):
        """List, for each number of signs, the dict from nodes to triples onward; None if there are too many texts.

        The last dict, behind all signs, has the prices of the stop instead. No triple is left out
        that a text of a price of at most `most` needs.
        """
        costs = {node: cost}
        levels = []
        for many in range(self._many):
            level = {here: self._fair_ways(here, many, most - costs[here]) for here in costs}
            levels.append(level)
            behind = {}
            for here in level:
                for _, price, then in level[here]:
                    behind[then] = min(costs[here] + price, behind.get(then, costs[here] + price))
            # The least price of the rest is known for one scan, so each node is one of another text.
            if len(self._scans) == 1 and len(behind) > limit:
                return None
            costs = behind
        return levels + [{here: self._behind(here, self._many) for here in costs}]

    def texts(self, most, limit):
        """List, ascending, the pairs (price, text) of a price of at most `most`; None for more than a limit."""
        bound = self.bound()
        if bound is None or bound > most:
            return []
        cost, node = self._first()
        levels = self._all_ways(cost, node, most, limit)
        return None if levels is None else _told(levels, cost, node, most, limit)


def _rests(levels):
    """Return, for each number of signs, the dict from nodes to the least prices of the rest."""
    rests = [levels[-1]]
    for level in reversed(levels[:-1]):
        behind = rests[-1]
        prices = {node: [price + behind[then] for _, price, then in level[node] if then in behind] for node in level}
        rests.append({node: min(prices[node]) for node in prices if prices[node]})
    return rests[::-1]


def _longer(found, level, rests, most):
    """Return the dict from nodes to pairs (price, text), with one more sign, that a rest keeps at most at `most`."""
    longer = {}
    for node in found:
        for sign, price, then in level[node]:
            if then in rests:
                enough = most - price - rests[then]
                kept = [(cost + price, text + sign) for cost, text in found[node] if cost <= enough]
                longer.setdefault(then, []).extend(kept)
    return longer


def _told(levels, cost, node, most, limit):
    """List the pairs (price, text) that lead from a node through the levels, None if there are more than a limit."""
    rests = _rests(levels)
    found = {node: [(cost, "")]}
    for level, behind in zip(levels[:-1], rests[1:]):
        found = _longer(found, level, behind, most)
        # Each beginning that is kept becomes at least one text.
        if sum([len(found[here]) for here in found]) > limit:
            return None
    return sorted([(price + levels[-1][here], text) for here in found for price, text in found[here]])

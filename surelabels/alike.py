"""How two rows are worn to one row (document, points 12.3, 12.4 and 13.4)."""


class Alike:
    """The ways to wear two rows of one length to one row by a wear, from a pair of its standing places to another one.

    What was asked for of two cells is kept, as it is asked for again and again.
    """

    def __init__(self, wear):
        self._wear = wear
        self._ways = {}

    def _ways_of(self, pair, cell, beside):
        """List the triples (price, worn cell, next pair) of the ways to wear two cells alike from a pair."""
        key = (pair, cell, beside)
        if key not in self._ways:
            found = []
            for worn in (0, 1):
                ones = self._wear.worn_on({pair[0]: 0}, cell, worn)
                others = self._wear.worn_on({pair[1]: 0}, beside, worn)
                found.extend([(ones[one] + others[other], worn, (one, other)) for one in ones for other in others])
            self._ways[key] = found
        return self._ways[key]

    def behind(self, pair, one, other):
        """Return the dict from the pairs behind two rows, worn alike from a pair on, to their least (price, number).

        The number is the worn row's.
        """
        found = {pair: (0, 0)}
        for cell, beside in zip(one, other):
            longer = {}
            for here in found:
                price, number = found[here]
                for more, worn, then in self._ways_of(here, cell, beside):
                    way = (price + more, 2 * number + worn)
                    if then not in longer or way < longer[then]:
                        longer[then] = way
            found = longer
        return found

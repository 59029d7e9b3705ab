"""What rests of texts cost at least for several scans together (document, point 14.1).

A rest is what comes behind some signs of a text: the further signs and the stop. For one scan its
least price depends on the standing place of the wear. Several scans have the same further signs, so
it depends on the standing places of all of them together, and there may be thousands of choices of
these. A *table* has one price for each choice, all side by side in one integer: a few operations on
integers then do for all choices at once what would take far too long one by one.
"""


def _repeated(bits, times):
    """Return the integer with a binary 1 at so many places, from the lowest one on, each so many bits further."""
    return ((1 << (bits * times)) - 1) // ((1 << bits) - 1)


class Fields:
    """Tables of one number of fields, which have a price in each; the first field has the lowest bits.

    A field has room for the sum of two prices of at most `dear`, and a highest bit that is 0 in every table.
    """

    def __init__(self, many, dear):
        self.bits = (2 * dear).bit_length() + 1
        self._size = self.bits * many
        self._ones = _repeated(self.bits, many)
        self._highest = self._ones << (self.bits - 1)
        self.dear = self.filled(dear)

    def filled(self, price):
        """Return the table with a price in all fields."""
        return price * self._ones

    def cut(self, table, index):
        """Return one table of a longer one, which consists of such tables side by side, by its index."""
        return (table >> (self._size * index)) & ((1 << self._size) - 1)

    def cheaper(self, one, other):
        """Return the table with the least of two tables' prices in each field."""
        # In the fields where one's price is not below the other's, the highest bit is still 1 behind the subtraction.
        above = ((one | self._highest) - other) & self._highest
        # All other bits of these fields, so that they are exchanged for those of the other table.
        exchanged = above - (above >> (self.bits - 1))
        return one ^ ((one ^ other) & exchanged)


class Axis:
    """The fields of tables by the standing place of one scan.

    inner is the number of choices for the scans behind this one, and outer of those for the scans ahead of it:
    `inner` fields side by side have the first standing place, as many behind them the next one, and so on; behind
    those of the last one it begins again, `outer` times in all.
    """

    def __init__(self, bits, inner, places, outer):
        self._step = bits * inner
        self._turn = self._step * places
        first = _repeated(bits, inner) * _repeated(self._turn, outer)
        self._ones = [first << (self._step * place) for place in range(places)]
        field = (1 << bits) - 1
        self._all = sum(self._ones) * field
        self._firsts = [sum(self._ones[:places - by]) * field for by in range(places)]

    def priced(self, prices):
        """Return the table with a price for each standing place."""
        return sum([price * ones for price, ones in zip(prices, self._ones)])

    def shifted(self, table, by):
        """Return the table that has at each standing place what a table has so many places on.

        Behind the last place comes the first one.
        """
        firsts = self._firsts[by]
        further = (table >> (self._step * by)) & firsts
        around = (table << (self._turn - self._step * by)) & (self._all - firsts)
        return further | around


class Tables:
    """The tables of the least prices of rests, by the number of signs and by the state of the rule that they lead to.

    What cannot be or costs more than `most` has the price `dear`, which is above all that matter.
    """

    def __init__(self, rule, scans, most):
        self._rule = rule
        self._scans = scans
        self._places = scans[0].many_places()
        # No least price is above the sum, and the fewer bits the fields have, the faster all goes.
        self._dear = min(most, sum([scan.dearest() for scan in scans])) + 1
        choices = [1]
        for _ in scans:
            choices.append(choices[-1] * self._places)
        # Choices follow each other as numbers do: the last scan's standing place is the last digit. The fields of an
        # index are those of all scans from this one on.
        self._fields = [Fields(many, self._dear) for many in choices[::-1]]
        self._axes = [Axis(self._fields[0].bits, inner, self._places, outer)
                      for inner, outer in zip(choices[-2::-1], choices)]
        self._tables = self._all_tables()
        self._kept = {}

    def _all_tables(self):
        """Return, for each number of signs, the dict from states to tables."""
        many = self._scans[0].many_signs()
        met = [[0]]
        for _ in range(many):
            met.append(sorted({after for state in met[-1] for after in self._rule.moves[state]}))
        stop = self._behind_stop()
        tables = [{state: stop for state in met[many] if state in self._rule.good}]
        for index in reversed(range(many)):
            tables.append(self._behind(met[index], index, tables[-1]))
        return tables[::-1]

    def _capped(self, prices):
        """List, for each standing place, its price in a dict, `dear` if that is less or there is none."""
        return [min(prices.get(place, self._dear), self._dear) for place in range(self._places)]

    def _behind_stop(self):
        """Return the table behind all signs."""
        fields = self._fields[0]
        table = 0
        for axis, scan in zip(self._axes, self._scans):
            table = fields.cheaper(table + axis.priced(self._capped(scan.behind_stop())), fields.dear)
        return table

    def _behind(self, states, many, tables):
        """Return the dict from states to tables behind many signs, by the tables behind one more."""
        fields = self._fields[0]
        shifts = {sign: self._shifts(sign, many + 1) for sign in self._rule.signs}
        ahead = {}
        found = {}
        for state in states:
            for sign, after in zip(self._rule.signs, self._rule.moves[state]):
                if after in tables:
                    if (sign, after) not in ahead:
                        ahead[sign, after] = self._ahead_of(shifts[sign], tables[after])
                    found[state] = fields.cheaper(ahead[sign, after], found.get(state, fields.dear))
        return found

    def _shifts(self, sign, index):
        """List, for each scan, the pairs (by, table): the prices of a sign's block that leads so many places on."""
        count = self._places
        shifts = []
        for axis, scan in zip(self._axes, self._scans):
            ways = [self._capped(scan.worn_from(place, sign, index)) for place in range(count)]
            prices = [[ways[place][(place + by) % count] for place in range(count)] for by in range(count)]
            shifts.append([(by, axis.priced(prices[by])) for by in range(count)])
        return shifts

    def _ahead_of(self, shifts, table):
        """Return the table ahead of a sign, by its shifts and the table behind it."""
        fields = self._fields[0]
        for axis, pairs in zip(self._axes, shifts):
            least = fields.dear
            for by, prices in pairs:
                least = fields.cheaper(axis.shifted(table, by) + prices, least)
            table = least
        return table

    def left(self, node, many):
        """Return the least price of the rest behind a node, None if there is none."""
        fronts, state = node
        if state not in self._tables[many]:
            return None
        table = self._tables[many][state]
        for index in range(len(fronts)):
            key = (many, state, fronts[:index + 1])
            if key not in self._kept:
                self._kept[key] = self._behind_front(table, index, fronts[index])
            table = self._kept[key]
        return table if table < self._dear else None

    def _behind_front(self, table, index, front):
        """Return the table of the scans behind one's index, by the table that has this scan too, and its front."""
        fields = self._fields[index + 1]
        least = fields.dear
        for place, price in front:
            prices = fields.cut(table, place) + fields.filled(min(price, self._dear))
            least = fields.cheaper(prices, least)
        return least

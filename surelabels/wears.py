"""Wear that turns rows into rows at a price (document, point 5)."""

from surelabels.cells import check_row
from surelabels.common import check_from, check_within, is_from, is_within, items_of, met_from
from surelabels.errors import BadRow, BadWear, TooMany


def _is_move(thing, many):
    """Tell whether a thing is a move (cell, worn, price, next) among `many` standing places."""
    move = items_of(thing)
    if move is None or len(move) != 4:
        return False
    cell, worn, price, after = move
    return is_within(cell, 0, 1) and is_within(worn, 0, 1) and is_from(price, 0) and is_within(after, 0, many - 1)


def _may_stay(moves, cell):
    """Tell whether one of some moves leaves a cell as it is at the price 0."""
    return any([move[0] == cell and move[1] == cell and move[2] == 0 for move in moves])


def _places_of(thing):
    """Return a tuple of 1 to 6 tuples as a list of tuples, or raise BadWear."""
    places = items_of(thing)
    if places is None or not 1 <= len(places) <= 6:
        raise BadWear(-1, -1)
    kept = [items_of(place) for place in places]
    for place in kept:
        if place is None:
            raise BadWear(-1, -1)
    return kept


def _check_moves(places):
    """Raise BadWear for the first wrong move of all, then for the first standing place where a cell cannot stay."""
    for state, things in enumerate(places):
        for index, thing in enumerate(things):
            if not _is_move(thing, len(places)):
                raise BadWear(state, index)
    for state, moves in enumerate(places):
        if not _may_stay(moves, 0) or not _may_stay(moves, 1):
            raise BadWear(state, -1)


def _moves_of(thing):
    """Return the moves of a wear as tuples, or raise BadWear."""
    places = _places_of(thing)
    _check_moves(places)
    return tuple([tuple([tuple(move) for move in moves]) for moves in places])


def _ways_of(moves):
    """Return the dict from (cell, worn) to the dict of next standing places and their least prices."""
    ways = {}
    for cell, worn, price, after in moves:
        prices = ways.setdefault((cell, worn), {})
        prices[after] = min(price, prices.get(after, price))
    return ways


class Wear:
    """Standing places with moves, by which a row becomes another one cell by cell."""

    def __init__(self, moves):
        self.moves = _moves_of(moves)
        self._ways = tuple([_ways_of(row) for row in self.moves])

    def worn_on(self, prices, cell, worn):
        """Return the least prices of the standing places behind one more cell.

        prices is the dict of those ahead of it; the cell becomes worn.
        """
        behind = {}
        for state in prices:
            ways = self._ways[state].get((cell, worn), {})
            for after in ways:
                price = prices[state] + ways[after]
                behind[after] = min(price, behind.get(after, price))
        return behind

    def __eq__(self, other):
        return isinstance(other, Wear) and self.moves == other.moves


def price_of(wear, row, worn):
    """Return the least price at which a row becomes worn, None if it cannot."""
    check_row(row, "row")
    check_row(worn, "worn")
    if len(row) != len(worn):
        raise BadRow("length")
    prices = {0: 0}
    for cell, made in zip(row, worn):
        prices = wear.worn_on(prices, cell, made)
    return min(prices.values(), default=None)


def _fair_front(prices, most):
    """Return the pairs (standing place, price) of at most a price, ascending, as a key for equal ones."""
    return tuple(sorted([(state, prices[state]) for state in prices if prices[state] <= most]))


def _least_of(front):
    """Return the least price of some pairs (standing place, price)."""
    return min([price for _, price in front])


def _worn_longer(wear, found, cell, most):
    """Return the worn rows by their fronts behind one more cell.

    The worn rows so far are the lists of the dict found, whose keys are their fronts.
    """
    longer = {}
    for front in found:
        for made in (0, 1):
            behind = _fair_front(wear.worn_on(dict(front), cell, made), most)
            if behind:
                longer[behind] = longer.get(behind, []) + [worn + (made,) for worn in found[front]]
    return longer


def worn_rows(wear, row, most):
    """List the pairs (worn, price) of all worn rows of a price of at most `most`, the cheapest first."""
    check_row(row, "row")
    check_from(most, 0, "most")
    found = {((0, 0),): [()]}
    for cell in row:
        found = _worn_longer(wear, found, cell, most)
        # Each beginning that is kept can go on without a price, so it becomes at least one worn row.
        if sum([len(rows) for rows in found.values()]) > 1000:
            raise TooMany(1000)
    pairs = [(_least_of(front), worn) for front in found for worn in found[front]]
    return [(worn, price) for price, worn in sorted(pairs)]


def is_plain(wear):
    """Tell whether no standing place has two moves of one cell and one worn cell."""
    for moves in wear.moves:
        if len({(move[0], move[1]) for move in moves}) != len(moves):
            return False
    return True


def flips(dark, light):
    """Return the wear by which each light cell may become dark at one price, each dark one light at another."""
    check_from(dark, 0, "dark")
    check_from(light, 0, "light")
    return Wear((((0, 0, 0, 0), (0, 1, dark, 0), (1, 1, 0, 0), (1, 0, light, 0)),))


def strokes(price, length):
    """Return the wear by which strokes of 1 to `length` cells become dark, each at the price."""
    check_from(price, 0, "price")
    check_within(length, 1, 5, "length")
    begun = ((0, 1, price, length - 1), (1, 1, price, length - 1))
    places = [((0, 0, 0, 0), (1, 1, 0, 0)) + begun]
    for left in range(1, length):
        drawn = ((0, 1, 0, left - 1), (1, 1, 0, left - 1))
        places.append(((0, 0, 0, 0), (1, 1, 0, 0)) + drawn + begun)
    return Wear(places)


def rare(dark, light, pause):
    """Return the wear of flips behind each of which the next `pause` cells stay."""
    check_from(dark, 0, "dark")
    check_from(light, 0, "light")
    check_within(pause, 1, 5, "pause")
    places = [((0, 0, 0, 0), (0, 1, dark, pause), (1, 1, 0, 0), (1, 0, light, pause))]
    for left in range(1, pause + 1):
        places.append(((0, 0, 0, left - 1), (1, 1, 0, left - 1)))
    return Wear(places)


def _moves_through(one, other, pair):
    """List the moves from a pair of standing places, the pair that each leads to in the place of the next one."""
    return [(cell, worn, price + more, (then, after))
            for cell, between, price, then in one.moves[pair[0]]
            for taken, worn, more, after in other.moves[pair[1]] if taken == between]


def _least_moves(moves, numbers):
    """Keep, for each cell, worn cell and next pair, one move with the least price, in the first one's place."""
    least = {}
    for cell, worn, price, pair in moves:
        key = (cell, worn, numbers[pair])
        least[key] = min(price, least.get(key, price))
    return [(cell, worn, least[cell, worn, after], after) for cell, worn, after in least]


def worn_twice(one, other):
    """Return the wear that is first one and then other."""
    pairs = list(met_from([(0, 0)], lambda pair: [move[3] for move in _moves_through(one, other, pair)]))
    if len(pairs) > 6:
        raise TooMany(6)
    numbers = {pair: number for number, pair in enumerate(pairs)}
    return Wear([_least_moves(_moves_through(one, other, pair), numbers) for pair in pairs])

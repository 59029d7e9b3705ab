"""What several files of the package need to judge arguments and to number things."""

from heapq import heappop, heappush

from surelabels.errors import BadKind, BadList, BadNumber, BadText

DIGITS = "0123456789"
LETTERS = "abcdefghijklmnopqrstuvwxyz"
SIGNS = "0123456789abcdefghijklmnopqrstuvwxyz"

# What a search of texts is for.
GOAL = ()

# A cost is a price times this number, with the number of signs behind it: so the cheapest way is,
# among those with one price, the one with the fewest signs. No search goes through as many standings
# (at most 22 times 20000 of them), and so a cheapest way never has as many signs.
COST = 1000000


def is_whole(thing):
    """Tell whether a thing is an integer; a bool is none."""
    return isinstance(thing, int) and not isinstance(thing, bool)


def is_from(thing, low):
    """Tell whether a thing is an integer from low on."""
    return is_whole(thing) and thing >= low


def is_within(thing, low, high):
    """Tell whether a thing is an integer from low to high."""
    return is_whole(thing) and low <= thing <= high


def check_from(thing, low, part):
    """Raise BadNumber for what is no integer from low on."""
    if not is_from(thing, low):
        raise BadNumber(part)


def check_within(thing, low, high, part):
    """Raise BadNumber for what is no integer from low to high."""
    if not is_within(thing, low, high):
        raise BadNumber(part)


def items_of(thing):
    """Return the items of a tuple or a list as a tuple, None for anything else."""
    if isinstance(thing, (tuple, list)):
        return tuple(thing)
    return None


def list_of(thing, low, high):
    """Return the items of a tuple or a list of low to high things as a tuple, or raise BadList."""
    items = items_of(thing)
    if items is None or not low <= len(items) <= high:
        raise BadList(-1)
    return items


def is_rising(things):
    """Tell whether each thing is greater than the one ahead of it."""
    return all([one < other for one, other in zip(things, things[1:])])


def is_sign(thing):
    """Tell whether a thing is a string of one digit or letter a to z."""
    return isinstance(thing, str) and len(thing) == 1 and thing in SIGNS


def number_of(word):
    """Return the number that a word is, in at most 40 decimal digits and without leading zeros, None if it is none."""
    if not 1 <= len(word) <= 40 or not all([character in DIGITS for character in word]):
        return None
    return None if len(word) > 1 and word[0] == "0" else int(word)


def check_text(text, signs):
    """Raise BadText for what is no string of these signs."""
    if not isinstance(text, str):
        raise BadText(-1)
    for place, character in enumerate(text):
        if character not in signs:
            raise BadText(place)


def check_kind(kind, kinds):
    """Raise BadKind for what is none of these strings."""
    if not isinstance(kind, str) or kind not in kinds:
        raise BadKind()


def met_from(firsts, after):
    """Return the dict from all that is met from some first things on to what each leads to.

    after(thing) is the list of what a thing leads to. The things are looked at in the order
    in which they are met, and this is the order of the keys: if after goes by the signs in
    order, it is the order of the least texts to them.
    """
    known = {first: True for first in firsts}
    met = list(known)
    led = {}
    while len(led) < len(met):
        here = met[len(led)]
        found = after(here)
        led[here] = found
        for thing in found:
            if thing not in known:
                known[thing] = True
                met.append(thing)
    return led


class Search:
    """What a search has met: the least cost of each thing so far, and the thing from which it was met so."""

    def __init__(self, limit):
        self.costs = {}
        self.ahead = {}
        self._limit = limit
        self._levels = {}
        self._queue = []

    def limit_to(self, limit):
        """Let only things at costs below a lower limit be met from now on."""
        self._limit = limit

    def meet(self, cost, thing, ahead):
        """Note a thing that is met at a cost, unless the cost is not below the limit, or it was met for as little."""
        if self._limit is not None and cost >= self._limit:
            return
        if thing in self.costs and self.costs[thing] <= cost:
            return
        self.costs[thing] = cost
        self.ahead[thing] = ahead
        if cost not in self._levels:
            self._levels[cost] = []
            heappush(self._queue, cost)
        self._levels[cost].append(thing)

    def take(self):
        """Return the next one of the cheapest things, each once at its least cost; None if there is none left."""
        while self._queue:
            cost = self._queue[0]
            level = self._levels[cost]
            if level:
                thing = level.pop()
                if self.costs[thing] == cost:
                    return thing
            else:
                heappop(self._queue)
                del self._levels[cost]
        return None

    def way_to(self, thing):
        """List the things through which a thing was met, from the first one on, without the thing itself."""
        way = []
        thing = self.ahead[thing]
        while thing is not None:
            way.append(thing)
            thing = self.ahead[thing]
        return way[::-1]


def cheapest_from(firsts, after, goal, limit):
    """Return the Search of all that is met from some first things, the cheapest first.

    firsts and after(thing) are lists of pairs (cost, thing); costs are integers from 0 on. Only
    things at costs below the limit are met (None: there is no limit); once the goal is met, only
    things that cost less.
    """
    search = Search(limit)
    for cost, thing in firsts:
        search.meet(cost, thing, None)
    thing = search.take()
    while thing is not None and thing != goal:
        here = search.costs[thing]
        for cost, then in after(thing):
            search.meet(here + cost, then, thing)
            if then == goal and goal in search.costs:
                search.limit_to(search.costs[goal])
        thing = search.take()
    return search

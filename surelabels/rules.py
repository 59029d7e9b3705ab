"""Check rules that judge texts, and their makers (document, points 3.1 and 3.2)."""

from surelabels.common import check_text, check_within, is_rising, is_sign, is_whole, is_within, items_of
from surelabels.errors import BadRule, BadSums, NoSign, NoState


def signs_of(thing):
    """Return an ascending tuple of 1 to 10 signs as a tuple, or raise BadRule."""
    signs = items_of(thing)
    if signs is None or not 1 <= len(signs) <= 10:
        raise BadRule("signs")
    if not all([is_sign(sign) for sign in signs]) or not is_rising(signs):
        raise BadRule("signs")
    return signs


def _are_states(things, many):
    """Tell whether all things are numbers of `many` states."""
    return all([is_within(thing, 0, many - 1) for thing in things])


def _moves_of(thing, width):
    """Return the moves of 1 to 40 states as tuples, one of this width for each state."""
    rows = items_of(thing)
    if rows is None or not 1 <= len(rows) <= 40:
        raise BadRule("moves")
    kept = [items_of(row) for row in rows]
    for row in kept:
        if row is None or len(row) != width or not _are_states(row, len(kept)):
            raise BadRule("moves")
    return tuple(kept)


def _good_of(thing, many):
    """Return the ascending tuple of good ones among `many` states."""
    states = items_of(thing)
    if states is None or not _are_states(states, many) or not is_rising(states):
        raise BadRule("good")
    return states


class Rule:
    """A rule that leads a text from state to state by its signs, and lets it if the last one is good."""

    def __init__(self, signs, moves, good):
        self.signs = signs_of(signs)
        self.moves = _moves_of(moves, len(self.signs))
        self.good = _good_of(good, len(self.moves))
        self._columns = {sign: column for column, sign in enumerate(self.signs)}

    def last(self, text):
        """Return the state to which a text leads."""
        check_text(text, self.signs)
        state = 0
        for sign in text:
            state = self.moves[state][self._columns[sign]]
        return state

    def lets(self, text):
        """Tell whether the rule lets a text."""
        return self.last(text) in self.good

    def move(self, state, sign):
        """Return the state to which a sign leads from a state."""
        if not is_within(state, 0, len(self.moves) - 1):
            raise NoState(state)
        if not isinstance(sign, str) or sign not in self._columns:
            raise NoSign(sign)
        return self.moves[state][self._columns[sign]]

    def __eq__(self, other):
        return (isinstance(other, Rule) and self.signs == other.signs
                and self.moves == other.moves and self.good == other.good)


def all_texts(signs):
    """Return the rule that lets every text of these signs."""
    kept = signs_of(signs)
    return Rule(kept, ((0,) * len(kept),), (0,))


def _integers_of(thing, low, high, part):
    """Return a tuple of low to high integers as a tuple, or raise BadSums."""
    numbers = items_of(thing)
    if numbers is None or not low <= len(numbers) <= high:
        raise BadSums(part)
    if not all([is_whole(number) for number in numbers]):
        raise BadSums(part)
    return numbers


def sums(signs, values, weights, modulus, rest=0):
    """Return the rule that lets a text if the weighed sum of its signs' values leaves this rest."""
    kept = signs_of(signs)
    worths = _integers_of(values, len(kept), len(kept), "values")
    loads = _integers_of(weights, 1, 4, "weights")
    if not is_within(modulus, 2, 9):
        raise BadSums("modulus")
    if not is_within(rest, 0, modulus - 1):
        raise BadSums("rest")
    moves = []
    for place, load in enumerate(loads):
        after = (place + 1) % len(loads) * modulus
        for total in range(modulus):
            moves.append(tuple([after + (total + worth * load) % modulus for worth in worths]))
    good = [place * modulus + rest for place in range(len(loads))]
    return Rule(kept, moves, good)


def lengths(signs, low, high):
    """Return the rule that lets the texts of low to high signs."""
    kept = signs_of(signs)
    check_within(low, 0, 30, "low")
    check_within(high, low, 30, "high")
    moves = [(min(number + 1, high + 1),) * len(kept) for number in range(high + 2)]
    return Rule(kept, moves, list(range(low, high + 1)))

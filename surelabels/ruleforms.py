"""Rules made of other rules, and what a rule lets (document, points 3.3 to 3.5)."""

from surelabels.common import check_within, met_from
from surelabels.errors import OtherSigns, TooMany
from surelabels.rules import Rule


def _check_alike(one, other):
    """Raise OtherSigns for two rules of unlike signs."""
    if one.signs != other.signs:
        raise OtherSigns()


def _led(one, other, pair):
    """List the pairs of states to which the signs lead from a pair, in the order of the signs."""
    return list(zip(one.moves[pair[0]], other.moves[pair[1]]))


def _joined(one, other, is_good):
    """Return the rule on the pairs of states; is_good judges by what each of the two rules says."""
    _check_alike(one, other)
    led = met_from([(0, 0)], lambda pair: _led(one, other, pair))
    if len(led) > 40:
        raise TooMany(40)
    numbers = {pair: number for number, pair in enumerate(led)}
    moves = [[numbers[after] for after in led[pair]] for pair in led]
    good = [numbers[pair] for pair in led if is_good(pair[0] in one.good, pair[1] in other.good)]
    return Rule(one.signs, moves, good)


def both(one, other):
    """Return the rule that lets what both rules let."""
    return _joined(one, other, lambda first, second: first and second)


def either(one, other):
    """Return the rule that lets what at least one of two rules lets."""
    return _joined(one, other, lambda first, second: first or second)


def opposite(rule):
    """Return the rule that lets what a rule does not let."""
    good = [state for state in range(len(rule.moves)) if state not in rule.good]
    return Rule(rule.signs, rule.moves, good)


def _finer(rule, states, classes):
    """Split the classes of states by the classes that the signs lead to.

    The classes are numbered in the order in which the states meet them: as the states
    stand in the order of the least texts to them, so do then the classes.
    """
    numbers = {}
    split = {}
    for state in states:
        key = (classes[state], tuple([classes[after] for after in rule.moves[state]]))
        split[state] = numbers.setdefault(key, len(numbers))
    return split


def least_rule(rule):
    """Return the rule with the fewest states that lets the same texts."""
    states = list(met_from([0], lambda state: rule.moves[state]))
    classes = {state: int(state in rule.good) for state in states}
    split = _finer(rule, states, classes)
    while len(set(list(split.values()))) > len(set(list(classes.values()))):
        classes = split
        split = _finer(rule, states, classes)
    first = {}
    for state in states:
        first.setdefault(split[state], state)
    moves = [[split[after] for after in rule.moves[first[number]]] for number in first]
    return Rule(rule.signs, moves, [number for number in first if first[number] in rule.good])


def unlike_text(one, other):
    """Return the least text that one rule lets and the other one does not, or None."""
    _check_alike(one, other)
    texts = {(0, 0): ""}
    led = met_from([(0, 0)], lambda pair: _led(one, other, pair))
    for pair in led:
        if (pair[0] in one.good) != (pair[1] in other.good):
            return texts[pair]
        for sign, after in zip(one.signs, led[pair]):
            texts.setdefault(after, texts[pair] + sign)
    return None


def many_let(rule, length):
    """Return the number of the texts of this length that a rule lets."""
    check_within(length, 0, 300, "length")
    numbers = [0] * len(rule.moves)
    numbers[0] = 1
    for _ in range(length):
        behind = [0] * len(rule.moves)
        for state, number in enumerate(numbers):
            for after in rule.moves[state]:
                behind[after] += number
        numbers = behind
    return sum([numbers[state] for state in rule.good])


def signs_left(rule):
    """Return, for each state, how few signs lead from it to a good one, None if none do."""
    left = [0 if state in rule.good else None for state in range(len(rule.moves))]
    for number in range(1, len(rule.moves)):
        for state, row in enumerate(rule.moves):
            if left[state] is None and number - 1 in [left[after] for after in row]:
                left[state] = number
    return left


def _ways(rule):
    """Return, for each state, the signs and the next states from which a good one can be reached."""
    left = signs_left(rule)
    return [[(sign, after) for sign, after in zip(rule.signs, row) if left[after] is not None] for row in rule.moves]


def _texts_of(ways, ends, length, most):
    """List the first texts of a length from state 0; ends tells which states can end in how many signs."""
    found = [("", 0)]
    for left in reversed(range(length)):
        longer = [(text + sign, after) for text, state in found for sign, after in ways[state]
                  if ends[left][after]]
        # Each beginning that is kept becomes at least one text, so no more than most of them count.
        found = longer[:most]
    return [text for text, _ in found]


def texts_let(rule, most):
    """List the first `most` texts that a rule lets, or all if there are fewer."""
    check_within(most, 0, 200, "most")
    ways = _ways(rule)
    ends = [[state in rule.good for state in range(len(rule.moves))]]
    reached = [0]
    texts = []
    length = 0
    # Once a length leads to no state from which a good one can be reached, no longer text is let.
    while len(texts) < most and reached:
        if ends[length][0]:
            texts.extend(_texts_of(ways, ends, length, most - len(texts)))
        ends.append([any([ends[length][after] for _, after in row]) for row in ways])
        reached = sorted({after for state in reached for _, after in ways[state]})
        length += 1
    return texts


def least_let(rule):
    """Return the first text that a rule lets, None if it lets none."""
    texts = texts_let(rule, 1)
    return texts[0] if texts else None

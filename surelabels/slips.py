"""Slips of hands, and which of them a rule overlooks (document, point 4)."""

from surelabels.common import check_kind, check_text, met_from
from surelabels.rules import signs_of

KINDS = ("one", "swap", "jump", "twin", "lost", "more")

# How many neighbours in a text a slip of each kind changes.
_SIZES = {"one": 1, "swap": 2, "jump": 3, "twin": 2, "lost": 1, "more": 0}

# The kind of the slip that takes a slip of each kind back.
_BACK = {"one": "one", "swap": "swap", "jump": "jump", "twin": "twin", "lost": "more", "more": "lost"}


def _pairs(kind, signs):
    """List the pairs (piece, made) of neighbours in a text and what a slip makes of them."""
    others = [(one, other) for one in signs for other in signs if one != other]
    if kind == "one":
        return others
    if kind == "swap":
        return [(one + other, other + one) for one, other in others]
    if kind == "jump":
        return [(one + mid + other, other + mid + one) for one, other in others for mid in signs]
    if kind == "twin":
        return [(one + one, other + other) for one, other in others]
    if kind == "lost":
        return [(sign, "") for sign in signs]
    return [("", sign) for sign in signs]


def _changes(kind, signs):
    """Return the dict from each piece of a text that a slip can change to all that it can make of it."""
    made = {}
    for piece, becomes in _pairs(kind, signs):
        made[piece] = made.get(piece, ()) + (becomes,)
    return made


def slipped(text, kind, signs):
    """List, ascending, the texts that one slip of a kind makes of a text."""
    kept = signs_of(signs)
    check_text(text, kept)
    check_kind(kind, KINDS)
    changes = _changes(kind, kept)
    size = _SIZES[kind]
    places = range(len(text) - size + 1)
    # All of them have one length, so their order as strings is their order as texts.
    return sorted({text[:place] + becomes + text[place + size:]
                   for place in places for becomes in changes.get(text[place:place + size], ())})


def _led(rule, state, text):
    """Return the state to which a text leads from a state."""
    for sign in text:
        state = rule.move(state, sign)
    return state


def _opened(rule, changes, state):
    """List the nodes at a state ahead of the slip; a slip that changes no sign may come at once."""
    behind = [(state, _led(rule, state, becomes), None) for becomes in changes.get("", ())]
    return [(state, state, "")] + behind


def _led_on(rule, changes, size, node, sign):
    """List the nodes to which one more sign of the text leads.

    A node is (one, other, held): one is the state of the text. Ahead of the slip and in it,
    held is the piece of the text that the slip has begun to change, and other the state
    ahead of this piece; behind the slip held is None and other the state of the text behind.
    """
    one, other, held = node
    after = rule.move(one, sign)
    if held is None:
        return [(after, rule.move(other, sign), None)]
    piece = held + sign
    if len(piece) < size:
        found = [(after, other, piece)]
    else:
        found = [(after, _led(rule, other, becomes), None) for becomes in changes.get(piece, ())]
    if held == "":
        found.extend(_opened(rule, changes, after))
    return found


def _graph(rule, changes, size, starts):
    """Return the dict from all nodes that texts lead to from the first ones to the lists of their next ones."""
    return met_from(starts, lambda node: [after for sign in rule.signs
                                          for after in _led_on(rule, changes, size, node, sign)])


def _distances(rule, led):
    """Return, for the nodes from which an end can be reached, by how few signs.

    An end is a node behind the slip with two good states.
    """
    ahead = {node: [] for node in led}
    for node in led:
        for after in led[node]:
            ahead[after].append(node)
    ends = [node for node in led if node[2] is None and node[0] in rule.good and node[1] in rule.good]
    far = {node: 0 for node in ends}
    queue = list(ends)
    looked = 0
    while looked < len(queue):
        here = queue[looked]
        looked += 1
        for node in ahead[here]:
            if node not in far:
                far[node] = far[here] + 1
                queue.append(node)
    return far


def _least_text(rule, changes, size, far, starts):
    """Return the least text that leads from one of some nodes to an end."""
    left = min([far[node] for node in starts])
    here = starts
    text = ""
    while left > 0:
        left -= 1
        # All nodes on a shortest way are kept, so the first sign that leads on is the least one.
        for sign in rule.signs:
            after = {then: True for node in here for then in _led_on(rule, changes, size, node, sign)
                     if far.get(then) == left}
            if after:
                text += sign
                here = list(after)
                break
    return text


def overlooked(rule, kind):
    """Return the least text with an overlooked slip of a kind and the least text behind it, or None."""
    check_kind(kind, KINDS)
    changes = _changes(kind, rule.signs)
    size = _SIZES[kind]
    starts = _opened(rule, changes, 0)
    far = _distances(rule, _graph(rule, changes, size, starts))
    hopeful = [node for node in starts if node in far]
    if not hopeful:
        return None
    text = _least_text(rule, changes, size, far, hopeful)
    behind = [made for made in slipped(text, kind, rule.signs) if rule.lets(made)]
    return (text, behind[0])


def seen_kinds(rule):
    """Return the tuple of the kinds of which a rule overlooks no slip."""
    return tuple([kind for kind in KINDS if overlooked(rule, kind) is None])


def origins(rule, text, kind):
    """List, ascending, the texts that a rule lets and of which one slip of a kind makes a text."""
    check_text(text, rule.signs)
    check_kind(kind, KINDS)
    return [made for made in slipped(text, _BACK[kind], rule.signs) if rule.lets(made)]

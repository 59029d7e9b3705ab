"""What the tests hold the chains against: labels that are worn, swept and read just as the document tells it.

Nothing here uses more of the package than the fields of its objects.
"""

import itertools
import random

from surelabels.books import Book
from surelabels.chains import Chain
from surelabels.readers import Reader, near, strict
from surelabels.rules import Rule
from surelabels.wears import Wear, flips, rare, strokes
from surelabels.windows import Window, middle
from tests.helpers import rows

KINDS = ("none", "wrong", "unlike")
STAY = ((0, 0, 0, 0), (1, 1, 0, 0))


def state_behind(rule, text, state=0):
    """Return the state to which a text leads from a state of a rule."""
    for sign in text:
        state = rule.moves[state][rule.signs.index(sign)]
    return state


def lets(rule, text):
    """Tell whether a rule lets a text."""
    return state_behind(rule, text) in rule.good


def hopeful(rule):
    """Return the set of the states from which some text leads to a good one."""
    found = set(rule.good)
    for _ in rule.moves:
        found |= {state for state, row in enumerate(rule.moves) if found & set(row)}
    return found


def texts_of(chain, longest):
    """List the texts of at most this many signs that the rule of a chain lets."""
    signs = chain.book.signs
    return ["".join(text) for length in range(longest + 1) for text in itertools.product(signs, repeat=length)
            if lets(chain.rule, text)]


def label_of(book, text):
    """Return the label of a text."""
    return book.start + tuple(cell for sign in text for cell in book.patterns[sign]) + book.stop


def worn_ways(wear, cells, place=0):
    """Return the dict from (worn, next place) to the least price, over all rows of moves."""
    found = {((), place): 0}
    for cell in cells:
        longer = {}
        for (worn, here), price in found.items():
            for taken, made, more, after in wear.moves[here]:
                if taken == cell:
                    key = (worn + (made,), after)
                    longer[key] = min(price + more, longer.get(key, price + more))
        found = longer
    return found


def prices_of_rows(wear, row):
    """Return the dict from all rows to which a row can be worn to their prices."""
    found = {}
    for (worn, _), price in worn_ways(wear, row).items():
        found[worn] = min(price, found.get(worn, price))
    return found


def item_of(window, cells):
    """Return what a window gives for the cells that it looks at."""
    return window.table[int("0" + "".join(str(cell) for cell in cells), 2)]


def swept_row(window, row):
    """Return the row that a window sweeps."""
    wide = (0,) * window.radius + row + (0,) * window.radius
    return tuple(item_of(window, wide[place:place + 2 * window.radius + 1]) for place in range(len(row)))


def text_read(chain, worn):
    """Return the text that is read in a worn row, or None."""
    row = swept_row(chain.window, worn)
    width = chain.book.width
    marks = [chain.reader.marks.get(row[place:place + width]) for place in range(0, len(row), width)]
    if marks[:1] != ["start"] or "stop" not in marks:
        return None
    inner = marks[1:marks.index("stop")]
    return None if None in inner or "start" in inner else "".join(inner)


def outcome_of(chain, text, worn):
    """Return the outcome of a worn row for a text."""
    found = text_read(chain, worn)
    if found == text:
        return "right"
    return "wrong" if found is not None and lets(chain.rule, found) else "none"


def kinds_of(chain, text, worn):
    """List the kinds of which a text and a worn row are a case."""
    found = text_read(chain, worn)
    kinds = [outcome_of(chain, text, worn)]
    if found is not None and found != text:
        kinds.append("unlike")
    return [kind for kind in kinds if kind != "right"]


def cases_of(chain, longest):
    """Return the dict from kinds to the least price of a case, with the fewest signs, over texts of few signs."""
    found = {}
    for text in texts_of(chain, longest):
        for worn, price in prices_of_rows(chain.wear, label_of(chain.book, text)).items():
            for kind in kinds_of(chain, text, worn):
                found[kind] = min((price, len(text)), found.get(kind, (price, len(text))))
    return found


def mark_of_last(chain, begun, tail, ahead):
    """Return the mark that is read in the last block, once the cells behind it are worn."""
    radius, cells = chain.window.radius, tail + ahead
    rest = tuple(item_of(chain.window, cells[place:place + 2 * radius + 1]) for place in range(radius))
    return chain.reader.marks.get(begun + rest)


def blocks_behind(chain, place, tail, mark):
    """Yield (price, place, tail, begun, worn) for each way to wear the block of one more mark."""
    radius, width = chain.window.radius, chain.book.width
    cells = {"start": chain.book.start, "stop": chain.book.stop}.get(mark) or chain.book.patterns[mark]
    for (worn, after), price in worn_ways(chain.wear, cells, place).items():
        known = tail + worn
        begun = tuple(item_of(chain.window, known[here:here + 2 * radius + 1]) for here in range(radius, width))
        yield price, after, known[width:], begun, worn


def told_on(chain, standing, mark):
    """Return told and same behind the last block once it is read as a mark, or None where reading ends."""
    _, _, _, last, _, told, same = standing
    if last == "start":
        return (told, same) if mark == "start" else None
    if mark in (None, "start", "stop"):
        return None
    return state_behind(chain.rule, mark, told), same and mark == last


def begins_as_told(chain):
    """Return the begins of a chain."""
    least = {}
    for price, place, tail, begun, _ in blocks_behind(chain, 0, (0,) * (2 * chain.window.radius), "start"):
        standing = (place, tail, begun, "start", 0, 0, True)
        least[standing] = min(price, least.get(standing, price))
    return [(least[standing], standing) for standing in sorted(least)] if 0 in hopeful(chain.rule) else []


def steps_as_told(chain, standing):
    """Return the steps from a standing."""
    place, tail, begun, _, meant, _, _ = standing
    least = {}
    for sign in chain.book.signs:
        after = state_behind(chain.rule, sign, meant)
        if after not in hopeful(chain.rule):
            continue
        for price, there, ends, swept, worn in blocks_behind(chain, place, tail, sign):
            told = told_on(chain, standing, mark_of_last(chain, begun, tail, worn))
            if told is not None:
                step = (sign, (there, ends, swept, sign, after) + told)
                least[step] = min(price, least.get(step, price))
    return [(sign, least[sign, then], then) for sign, then in sorted(least)]


def signs_left(rule, state):
    """Return how few signs lead from a state of a rule to a good one."""
    many, reached = 0, {state}
    while not reached & set(rule.good):
        reached = {after for state in reached for after in rule.moves[state]}
        many += 1
    return many


def all_ends(chain, standing):
    """Return the dict from all that can end the reading to the pair of the least price and, for it, of fewest signs."""
    place, tail, begun, last, meant, told, _ = standing
    radius, good = chain.window.radius, chain.rule.good
    least = {}
    for mark in chain.book.signs + ("stop",):
        if mark == "stop" and meant not in good:
            continue
        if mark != "stop" and state_behind(chain.rule, mark, meant) not in hopeful(chain.rule):
            continue
        signs = 0 if mark == "stop" else 1 + signs_left(chain.rule, state_behind(chain.rule, mark, meant))
        for price, _, ends, swept, worn in blocks_behind(chain, place, tail, mark):
            found = mark_of_last(chain, begun, tail, worn)
            read = told_on(chain, standing, found)
            whats = ("none",)
            if read is None and last != "start" and found == "stop":
                whats = ("wrong" if told in good else "none", "unlike")
            elif read is not None and mark != "stop":
                whats = ()
            elif read is not None and mark_of_last(chain, swept, ends, (0,) * radius) == "stop":
                whats = ("right",) if read[1] else ("wrong" if read[0] in good else "none", "unlike")
            for what in whats:
                least[what] = min((price, signs), least.get(what, (price, signs)))
    return least


def ends_as_told(chain, standing):
    """Return the ends from a standing."""
    return [(what, price) for what, (price, _) in sorted(all_ends(chain, standing).items())]


def walked(chain):
    """Return the dict from all standings that labels lead to to pairs: the least price, and the fewest signs for it."""
    far = {standing: (price, 0) for price, standing in begins_as_told(chain)}
    waiting = sorted(far, key=far.get)
    while waiting:
        here = waiting.pop(0)
        for _, price, then in steps_as_told(chain, here):
            cost = (far[here][0] + price, far[here][1] + 1)
            if then not in far or cost < far[then]:
                far[then] = cost
                waiting.append(then)
    return far


def fewest_walked(chain):
    """Return the dict from kinds to the least price by begins, steps and ends, and the fewest signs for it."""
    least = {}
    for standing, (far, signs) in walked(chain).items():
        for what, (price, more) in all_ends(chain, standing).items():
            least[what] = min((far + price, signs + more), least.get(what, (far + price, signs + more)))
    return {kind: least[kind] for kind in KINDS if kind in least}


def least_walked(chain):
    """Return the dict from kinds to the least price by begins, steps and ends."""
    return {kind: price for kind, (price, _) in fewest_walked(chain).items()}


def some_wear(chance, most=3):
    """Return a wear of chance."""
    shape = chance.randrange(5)
    if shape == 0:
        return flips(chance.randint(0, 3), chance.randint(1, 3))
    if shape == 1:
        return strokes(chance.randint(1, 3), chance.randint(1, 2))
    if shape == 2:
        return rare(chance.randint(1, 2), chance.randint(0, 2), 1)
    places = chance.randint(1, most)
    moves = []
    for _ in range(places):
        row = [(cell, cell, 0, chance.randrange(places)) for cell in (0, 1)]
        row += [(chance.randint(0, 1), chance.randint(0, 1), chance.randint(0, 3), chance.randrange(places))
                for _ in range(chance.randint(0, 4))]
        chance.shuffle(row)
        moves.append(row)
    return Wear(moves)


def some_plain_wear(chance, most=3):
    """Return a wear of chance that has at most one move for each standing place, cell and worn cell."""
    places = chance.randint(1, most)
    moves = []
    for _ in range(places):
        row = [(cell, cell, 0, chance.randrange(places)) for cell in (0, 1)]
        row += [(cell, 1 - cell, chance.randint(0, 3), chance.randrange(places)) for cell in (0, 1)
                if chance.random() < 0.7]
        chance.shuffle(row)
        moves.append(row)
    return Wear(moves)


def some_book(chance, width, most=3):
    """Return a book of chance of a width."""
    count = chance.randint(1, min(most, 2 ** width - 2))
    taken = chance.sample(rows(width), count + 2)
    return Book(dict(zip(chance.sample("ab01xz", count), taken)), taken[-2], taken[-1])


def some_rule(chance, signs, most=3):
    """Return a rule of chance of some signs."""
    states = chance.randint(1, most)
    moves = [[chance.randrange(states) for _ in signs] for _ in range(states)]
    return Rule(signs, moves, [state for state in range(states) if chance.random() < 0.5])


def some_window(chance, most):
    """Return a window of chance; some leave most cells as they are, so that labels can be read."""
    radius = chance.randint(0, most)
    shape = chance.randrange(4)
    if shape == 0:
        return middle(radius)
    table = [cells[radius] for cells in rows(2 * radius + 1)]
    for place in range(len(table)):
        if chance.random() < (0.1, 0.3, 0.5)[shape - 1]:
            table[place] = chance.randint(0, 1)
    return Window(radius, table)


def some_reader(chance, book):
    """Return a reader of chance for a book."""
    shape = chance.randrange(3)
    if shape == 0:
        return strict(book)
    if shape == 1:
        return near(book, chance.randint(1, 2))
    marks = {row: chance.choice(book.all_marks()) for row in rows(book.width) if chance.random() < 0.9}
    # Without a start nothing is ever read.
    marks[book.start] = "start"
    return Reader(book.width, marks)


def some_chains(many, seed, widths=(2, 2, 3), radius=3, states=3, signs=3, places=3):
    """Return chains of chance, the same ones each time."""
    chance = random.Random(seed)
    made = []
    for _ in range(many):
        width = chance.choice(widths)
        book = some_book(chance, width, signs)
        made.append(Chain(book, some_rule(chance, book.signs, states), some_wear(chance, places),
                          some_window(chance, min(width, radius)), some_reader(chance, book)))
    return made

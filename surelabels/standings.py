"""How labels are worn and read block by block (document, point 9)."""

from surelabels.cells import is_row_of
from surelabels.common import is_within, items_of
from surelabels.errors import NoStanding
from surelabels.ruleforms import signs_left
from surelabels.windows import swept_inside


def worn_pieces(wear, place, cells):
    """List the triples (price, piece, next place): how some cells can be worn from a standing place of the wear.

    Each piece of worn cells stands there once for each next place, with its least price.
    """
    found = {(): {place: 0}}
    for cell in cells:
        longer = {}
        for piece in found:
            for worn in (0, 1):
                prices = wear.worn_on(found[piece], cell, worn)
                if prices:
                    longer[piece + (worn,)] = prices
        found = longer
    return [(found[piece][after], piece, after) for piece in found for after in found[piece]]


class Course:
    """The course of a chain's labels: from standing to standing, to the ends.

    With the window's radius r, the last block can be read as soon as the first r cells of the
    next one are worn. So each way to a standing leads through a *halfway*, a tuple (spot,
    printed, meant, told, same): the spot is the pair of the wear's standing place and the last
    2 * r worn cells, printed the mark whose first r cells are worn, meant the rule's state
    behind it, and told and same speak of all blocks ahead of it. As many standings share one
    halfway, it takes far fewer steps to look through all of them than there are between them.
    A *front* is what a standing has of the wear: the first three of its items.

    Tables of what was asked for are kept, as it is asked for again and again.
    """

    def __init__(self, chain):
        self._chain = chain
        self._radius = chain.window.radius
        self._rows = {mark: chain.book.pattern(mark) for mark in chain.book.all_marks()}
        self._marks = chain.reader.marks
        self._left = signs_left(chain.rule)
        self._printable = [self._printable_from(state) for state in range(len(chain.rule.moves))]
        self._heads = {}
        self._reads = {}
        self._fronts = {}
        self._stops = {}

    def _printable_from(self, state):
        """List the pairs (mark, state behind it) of the marks that may be printed at a state of the rule."""
        rule = self._chain.rule
        found = [(sign, after) for sign, after in zip(rule.signs, rule.moves[state]) if self._left[after] is not None]
        if state in rule.good:
            found.append(("stop", state))
        return found

    def standing_of(self, thing):
        """Return a standing of the chain as a tuple, None for what is none."""
        parts = items_of(thing)
        if parts is None or len(parts) != 7:
            return None
        place, tail, begun, last, meant, told, same = parts
        book, rule, wear = self._chain.book, self._chain.rule, self._chain.wear
        if not is_within(place, 0, len(wear.moves) - 1):
            return None
        if not is_row_of(tail, 2 * self._radius) or not is_row_of(begun, book.width - self._radius):
            return None
        if not isinstance(last, str) or not (last == "start" or last in book.signs):
            return None
        if not is_within(meant, 0, len(rule.moves) - 1) or self._left[meant] is None:
            return None
        if not is_within(told, 0, len(rule.moves) - 1) or not isinstance(same, bool):
            return None
        return parts

    def merged(self, standing):
        """Return one standing for all those that go on alike: unlike signs stay so, whatever was printed last."""
        place, tail, begun, last, meant, told, same = standing
        if same or last == "start":
            return standing
        return (place, tail, begun, self._chain.book.signs[0], meant, told, same)

    def firsts(self):
        """List the pairs (price, halfway) of the first cells of the start."""
        if self._left[0] is None:
            return []
        ways = self._heads_from(0, (0,) * (2 * self._radius), "start")
        return [(price, (spot, "start", 0, 0, True)) for price, _, spot in ways]

    def _heads_from(self, place, tail, printed):
        """List the triples (price, piece, spot) of the ways to wear the first cells of a mark's row."""
        key = (place, printed)
        if key not in self._heads:
            self._heads[key] = worn_pieces(self._chain.wear, place, self._rows[printed][:self._radius])
        return [(price, piece, (after, tail[self._radius:] + piece)) for price, piece, after in self._heads[key]]

    def _reads_from(self, front, printed):
        """Return the dict from all that the last block can be read as to the pairs (price, spot), the cheapest first.

        The first cells of a further mark's row are worn behind the last block.
        """
        key = (front, printed)
        if key not in self._reads:
            place, tail, begun = front
            ways = {}
            for price, piece, spot in self._heads_from(place, tail, printed):
                block = begun + swept_inside(self._chain.window, tail + piece)
                ways.setdefault(self._marks.get(block), []).append((price, spot))
            self._reads[key] = {mark: sorted(ways[mark]) for mark in ways}
        return self._reads[key]

    def fronts(self, spot, printed):
        """List the triples (price, piece, front) of the ways to wear the rest of a mark's row, each front once."""
        key = (spot, printed)
        if key not in self._fronts:
            place, tail = spot
            least = {}
            for price, piece, after in worn_pieces(self._chain.wear, place, self._rows[printed][self._radius:]):
                cells = tail + piece
                front = (after, cells[len(piece):], swept_inside(self._chain.window, cells))
                if front not in least or price < least[front][0]:
                    least[front] = (price, piece)
            self._fronts[key] = [(least[front][0], least[front][1], front) for front in least]
        return self._fronts[key]

    def head_of(self, spot):
        """Return the first worn cells of the block that is being printed at a spot."""
        return spot[1][self._radius:]

    def standings(self, halfway):
        """List the pairs (price, standing) to which a halfway leads."""
        spot, printed, meant, told, same = halfway
        return [(price, front + (printed, meant, told, same)) for price, _, front in self.fronts(spot, printed)]

    def _read_on(self, standing, mark):
        """Return the pair (told, same) once the last block is read as a mark, None where reading does not go on."""
        last, told, same = standing[3], standing[5], standing[6]
        if last == "start":
            return (told, same) if mark == "start" else None
        if mark is None or mark in ("start", "stop"):
            return None
        return (self._chain.rule.move(told, mark), same and mark == last)

    def _readings(self, standing):
        """List what can come next: (printed, state behind it, mark that is read in the last block, told on, ways).

        Told on is the pair (told, same) behind the last block, None where reading does not go
        on; the ways are pairs (price, spot), the cheapest one first.
        """
        told_on = {}
        found = []
        for printed, after in self._printable[standing[4]]:
            reads = self._reads_from(standing[:3], printed)
            for mark in reads:
                if mark not in told_on:
                    told_on[mark] = self._read_on(standing, mark)
                found.append((printed, after, mark, told_on[mark], reads[mark]))
        return found

    def _judged(self, told, same):
        """Return the outcomes and kinds of a text that was read."""
        if same:
            return ("right",)
        return ("wrong" if told in self._chain.rule.good else "none", "unlike")

    def _early_finish(self, standing, reading):
        """Return the cheapest end where the last block is read as a mark with which reading does not go on."""
        printed, after, mark, _, ways = reading
        whats = ("none",)
        if mark == "stop" and standing[3] != "start":
            whats = self._judged(standing[5], False)
        price, spot = ways[0]
        signs = 0 if printed == "stop" else 1 + self._left[after]
        return (whats, price, signs, printed, after, self.head_of(spot) + self._rows[printed][self._radius:])

    def _stops_from(self, spot):
        """List the triples (price, piece, whether it is read as "stop") of the cheapest ways to wear a stop's block."""
        if spot not in self._stops:
            least = {}
            for price, piece, front in self.fronts(spot, "stop"):
                block = front[2] + swept_inside(self._chain.window, front[1] + (0,) * self._radius)
                is_stop = self._marks.get(block) == "stop"
                if is_stop not in least or price < least[is_stop][0]:
                    least[is_stop] = (price, piece)
            self._stops[spot] = [(least[is_stop][0], least[is_stop][1], is_stop) for is_stop in least]
        return self._stops[spot]

    def _stop_finishes(self, reading):
        """List the ends where all blocks ahead of the stop's one are read."""
        printed, after, _, (told, same), ways = reading
        found = []
        for price, spot in ways:
            for more, piece, is_stop in self._stops_from(spot):
                whats = self._judged(told, same) if is_stop else ("none",)
                found.append((whats, price + more, 0, printed, after, self.head_of(spot) + piece))
        return found

    def onward(self, standing):
        """Return the lists of what a standing leads to: halfways and finishes.

        Halfways stand in pairs (price, halfway). A finish is an end of the reading, (whats,
        price, signs, printed, state behind it, worn): whats are its outcomes and kinds, signs
        is how few signs are printed in all, and worn the worn row of the mark printed next.
        """
        halfways = []
        finishes = []
        for reading in self._readings(standing):
            printed, after, _, told_on, ways = reading
            if told_on is None:
                finishes.append(self._early_finish(standing, reading))
            elif printed == "stop":
                finishes.extend(self._stop_finishes(reading))
            else:
                halfways.extend([(price, (spot, printed, after) + told_on) for price, spot in ways])
        return (halfways, finishes)

    def least_signs(self, state):
        """Return a text with the fewest signs that leads from a state of the rule to a good one."""
        text = ""
        while self._left[state] > 0:
            ways = [(sign, after) for sign, after in self._printable[state] if self._left[after] < self._left[state]]
            text += ways[0][0]
            state = ways[0][1]
        return text


def _least_behind(course, halfways):
    """Return the dict from the standings to which some pairs (price, halfway) lead to their least prices."""
    least = {}
    for price, halfway in halfways:
        for more, standing in course.standings(halfway):
            least[standing] = min(price + more, least.get(standing, price + more))
    return least


def begins(chain):
    """List the pairs (price, standing) behind the first block, ascending by standing."""
    course = Course(chain)
    least = _least_behind(course, course.firsts())
    return [(least[standing], standing) for standing in sorted(least)]


def _known_standing(course, thing):
    """Return a standing as a tuple, or raise NoStanding."""
    standing = course.standing_of(thing)
    if standing is None:
        raise NoStanding()
    return standing


def steps(chain, standing):
    """List the triples (sign, price, next) of the steps from a standing, ascending by sign and then by next."""
    course = Course(chain)
    least = _least_behind(course, course.onward(_known_standing(course, standing))[0])
    # The sign that was printed is the last one of the next standing.
    pairs = sorted([(after[3], after) for after in least])
    return [(sign, least[after], after) for sign, after in pairs]


def ends(chain, standing):
    """List the pairs (what, price) of all that can end the reading from a standing, ascending by what."""
    course = Course(chain)
    least = {}
    for whats, price, _, _, _, _ in course.onward(_known_standing(course, standing))[1]:
        for what in whats:
            least[what] = min(price, least.get(what, price))
    return [(what, least[what]) for what in sorted(least)]

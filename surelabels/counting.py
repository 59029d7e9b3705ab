"""How often each outcome comes of the worn labels of one length (document, point 11)."""

from surelabels.cells import row_with
from surelabels.chains import check_size
from surelabels.common import check_within
from surelabels.errors import NotPlain
from surelabels.standings import worn_pieces
from surelabels.wears import is_plain
from surelabels.windows import swept_inside

# The most that size may be.
WIDEST = 2000


def _add(counts, key, more, price, many):
    """Add to the numbers of a key some more, each `many` times, of worn rows that are dearer by a price then."""
    if price > 0 or many > 1:
        more = [0] * price + [many * number for number in more[:len(more) - price]]
    if key in counts:
        more = [one + other for one, other in zip(counts[key], more)]
    counts[key] = more


class Tally:
    """The worn labels of a chain with a plain wear, counted by their price block by block.

    With the window's radius r, a *front* is what counts behind a block of how it was worn:
    (place, ending, reads), the wear's standing place, the last r worn cells, and what the block
    is read as, for each row of r cells that can be worn behind it. A *spot* is the pair of a
    standing place and the last 2 * r worn cells, and stands r cells behind a block's end.

    A *memory* is what counts of the texts: (meant, told, last) behind a block, with the rule's
    states behind what was printed and behind what was read ahead of the block, and what was
    printed last, None once other signs were read. At a spot the block is read, too, and the
    third item tells whether all signs were read as they were printed. Where told is None, the
    third item is what the label counts for, whatever comes: "wrong" if a wrong text was read
    already, "all" if it is not read at all.

    Numbers are lists, for each price one number.
    """

    def __init__(self, chain, most):
        self._chain = chain
        self._radius = chain.window.radius
        self._most = most
        self._marks = chain.reader.marks
        self._pieces = [row_with(number, self._radius) for number in range(1 << self._radius)]
        self._nothing = (None,) * len(self._pieces)
        self._heads = {}
        self._fronts = {}

    def begun(self):
        """Return the numbers behind the start."""
        one = [1] + [0] * self._most
        spots = {}
        for piece in self._pieces:
            spot = (0, (0,) * self._radius + piece)
            spots[spot, (0, 0, True)] = one
            spots[spot, (0, None, "all")] = one
        return self._printed(spots, ("start",))

    def longer(self, counts, marks):
        """Return the numbers behind one more block, for which one of some marks is printed."""
        return self._printed(self._read(counts), marks)

    def _read(self, counts):
        """Return the numbers at the spots behind the blocks that are read now.

        Nothing is printed there yet: a spot's last r cells are those that will be worn.
        """
        spots = {}
        for front, memory in counts:
            place, ending, reads = front
            for piece, mark in zip(self._pieces, reads):
                after = self._read_on(memory, mark)
                if after is not None:
                    _add(spots, ((place, ending + piece), after), counts[front, memory], 0, 1)
        return spots

    def _read_on(self, memory, mark):
        """Return the memory once the last block is read as a mark, None where no text that is let can be read."""
        meant, told, last = memory
        if told is None:
            return memory
        if last == "start":
            return (meant, told, True) if mark == "start" else None
        if mark is None or mark == "start":
            return None
        if mark == "stop":
            return (meant, None, "wrong") if told in self._chain.rule.good else None
        return (meant, self._chain.rule.move(told, mark), last == mark)

    def _printed(self, spots, marks):
        """Return the numbers behind a block whose first cells are those of the spots."""
        halves = {}
        for spot, memory in spots:
            for mark in marks:
                after = self._printed_on(memory, mark)
                way = self._head(spot, mark)
                if after is not None and way is not None:
                    _add(halves, (way[1], mark, after), spots[spot, memory], way[0], 1)
        counts = {}
        for spot, mark, memory in halves:
            for price, many, front in self._fronts_behind(spot, mark, memory[1] is None):
                _add(counts, (front, memory), halves[spot, mark, memory], price, many)
        return counts

    def _printed_on(self, memory, mark):
        """Return the memory once a mark is printed, None where it may not be."""
        meant, told, same = memory
        if mark == "stop" and meant not in self._chain.rule.good:
            return None
        after = meant if mark in ("start", "stop") else self._chain.rule.move(meant, mark)
        if told is None:
            return (after, None, same)
        return (after, told, mark if same else None)

    def _head(self, spot, mark):
        """Return the pair (price, spot) of the way to wear a mark's first cells to the last ones of a spot, or None."""
        key = (spot, mark)
        if key not in self._heads:
            place, tail = spot
            row = self._chain.book.pattern(mark)[:self._radius]
            ways = [(price, (after, tail)) for price, piece, after in worn_pieces(self._chain.wear, place, row)
                    if price <= self._most and piece == tail[self._radius:]]
            self._heads[key] = ways[0] if ways else None
        return self._heads[key]

    def _fronts_behind(self, spot, mark, settled):
        """List the triples (price, many, front): how many ways to wear the rest of a mark's row lead to a front."""
        key = (spot, mark, settled)
        if key not in self._fronts:
            place, tail = spot
            row = self._chain.book.pattern(mark)[self._radius:]
            many = {}
            for price, piece, after in worn_pieces(self._chain.wear, place, row):
                front = self._settled_front(after) if settled else self._front(after, tail + piece)
                if price <= self._most and (settled or front[2] != self._nothing):
                    many[price, front] = many.get((price, front), 0) + 1
            self._fronts[key] = [(price, many[price, front], front) for price, front in many]
        return self._fronts[key]

    def _settled_front(self, place):
        """Return the one front for all worn cells, where nothing is read any more."""
        return (place, (0,) * self._radius, self._nothing)

    def _front(self, place, cells):
        """Return the front behind a block, for the cells from 2 * radius ahead of those that it is begun with."""
        window = self._chain.window
        begun = swept_inside(window, cells)
        tail = cells[len(cells) - 2 * self._radius:]
        reads = [self._marks.get(begun + swept_inside(window, tail + piece)) for piece in self._pieces]
        return (place, tail[self._radius:], tuple(reads))

    def outcomes(self, counts):
        """Return, from the numbers behind the stop, those of all worn rows that are "right", "wrong" and "all"."""
        found = {what: [0] * (self._most + 1) for what in ("right", "wrong", "all")}
        for front, memory in counts:
            what = self._outcome(front, memory)
            if what is not None:
                _add(found, what, counts[front, memory], 0, 1)
        return found

    def _outcome(self, front, memory):
        """Return what a whole worn label counts for, None for nothing."""
        _, told, last = memory
        if told is None:
            return last
        # Behind the label all cells are light.
        if front[2][0] != "stop":
            return None
        if last is not None:
            return "right"
        return "wrong" if told in self._chain.rule.good else None


def numbers(chain, length, most):
    """List the tuples (right, none, wrong): how many worn labels of texts of a length have each outcome, by price."""
    if not is_plain(chain.wear):
        raise NotPlain()
    check_within(length, 0, 40, "length")
    check_within(most, 0, 20, "most")
    check_size(chain, WIDEST)
    tally = Tally(chain, most)
    counts = tally.begun()
    for _ in range(length):
        counts = tally.longer(counts, chain.book.signs)
    found = tally.outcomes(tally.longer(counts, ("stop",)))
    return [(right, every - right - wrong, wrong)
            for right, wrong, every in zip(found["right"], found["wrong"], found["all"])]

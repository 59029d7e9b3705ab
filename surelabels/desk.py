"""A desk that keeps things under names and answers lines (document, point 16)."""

from surelabels.books import label
from surelabels.chains import Chain, seen
from surelabels.common import LETTERS, number_of
from surelabels.errors import LabelError, NoLine, NoName, NoUndo
from surelabels.mending import mended
from surelabels.prices import least_case, margin
from surelabels.readers import near, strict
from surelabels.rules import sums
from surelabels.slips import seen_kinds
from surelabels.texts import read_book, read_row, read_rule, read_wear, read_window, show_row
from surelabels.wears import flips, price_of, strokes
from surelabels.windows import middle, swept

CLASSES = ("book", "rule", "wear", "window", "reader", "chain")

# What stands behind the first word of each line. A class means the name of a thing of it; "name"
# is a new name, "rest" all that is left of the line, and "text" a word or nothing.
FORMS = {
    "book": ("name", "rest"),
    "rule": ("name", "rest"),
    "wear": ("name", "rest"),
    "window": ("name", "rest"),
    "sums": ("name", "signs", "numbers", "numbers", "number", "number"),
    "flips": ("name", "number", "number"),
    "strokes": ("name", "number", "number"),
    "middle": ("name", "number"),
    "strict": ("name", "book"),
    "near": ("name", "book", "number"),
    "chain": ("name", "book", "rule", "wear", "window", "reader"),
    "undo": (),
    "label": ("book", "text"),
    "price": ("wear", "row", "row"),
    "sweep": ("window", "row"),
    "read": ("chain", "row"),
    "lets": ("rule", "text"),
    "slips": ("rule",),
    "margin": ("chain",),
    "case": ("chain", "word"),
    "mend": ("chain", "row"),
    "names": (),
}

# The classes of the things that the lines keep.
MADE = {
    "book": "book",
    "rule": "rule",
    "wear": "wear",
    "window": "window",
    "sums": "rule",
    "flips": "wear",
    "strokes": "wear",
    "middle": "window",
    "strict": "reader",
    "near": "reader",
    "chain": "chain",
}


def _is_name(word):
    """Tell whether a word is written as a name: 1 to 8 letters."""
    return 1 <= len(word) <= 8 and all([character in LETTERS for character in word])


def _numbers_of(word):
    """List the numbers in a word with commas between two, None for each one that is not written as a number."""
    return [number_of(part) for part in word.split(",")]


def _is_written(form, word):
    """Tell whether a word has one of the forms of FORMS."""
    if form == "rest":
        return True
    if " " in word:
        return False
    if form == "text":
        return True
    if form == "number":
        return number_of(word) is not None
    if form == "numbers":
        return None not in _numbers_of(word)
    if form in ("word", "signs", "row"):
        return word != ""
    return _is_name(word)


def _words_of(line):
    """Return the pair of a line's first word and the list of what stands behind it, or raise NoLine."""
    if not isinstance(line, str):
        raise NoLine()
    forms = FORMS.get(line.split(" ")[0])
    if forms is None:
        raise NoLine()
    first, *words = line.split(" ", len(forms))
    if len(words) != len(forms) or first not in FORMS:
        raise NoLine()
    if not all([_is_written(form, word) for form, word in zip(forms, words)]):
        raise NoLine()
    return (first, words)


def _value_of(form, word):
    """Return what a word stands for that is no name, or raise NoText for what is no row."""
    if form == "number":
        return number_of(word)
    if form == "numbers":
        return _numbers_of(word)
    if form == "signs":
        return tuple(word)
    return read_row(word) if form == "row" else word


def _made(first, parts):
    """Return the thing that a line with this first word keeps."""
    match first:
        case "book":
            return read_book(*parts)
        case "rule":
            return read_rule(*parts)
        case "wear":
            return read_wear(*parts)
        case "window":
            return read_window(*parts)
        case "sums":
            return sums(*parts)
        case "flips":
            return flips(*parts)
        case "strokes":
            return strokes(*parts)
        case "middle":
            return middle(*parts)
        case "strict":
            return strict(*parts)
        case "near":
            return near(*parts)
        case _:
            return Chain(*parts)


def _shown_margin(chain):
    """Return the three prices of a chain's margin."""
    return " ".join(["never" if price is None else str(price) for price in margin(chain)])


def _shown_case(chain, kind):
    """Return the price, the text and the row of a least case, "never" if there is none."""
    found = least_case(chain, kind)
    if found is None:
        return "never"
    price, text, worn = found
    return f"{price} {text or '-'} {show_row(worn)}"


def _shown_mended(chain, row):
    """Return the price and the texts that a worn row can have been, "none" if there are none."""
    found = mended(chain, row)
    if found is None:
        return "none"
    price, texts = found
    return " ".join([str(price)] + [text or "-" for text in texts])


def _answer(first, parts):
    """Return the answer to a line with this first word, which asks about things."""
    match first:
        case "label":
            return show_row(label(*parts))
        case "price":
            price = price_of(*parts)
            return "none" if price is None else str(price)
        case "sweep":
            return show_row(swept(*parts))
        case "read":
            text = seen(*parts)
            return "none" if text is None else "text " + text
        case "lets":
            rule, text = parts
            return "yes" if rule.lets(text) else "no"
        case "slips":
            return " ".join(seen_kinds(*parts)) or "none"
        case "margin":
            return _shown_margin(*parts)
        case "case":
            return _shown_case(*parts)
        case _:
            return _shown_mended(*parts)


class Desk:
    """Things under names, each kept with the name of its class, and what stood there before, to take lines back."""

    def __init__(self):
        self._things = {}
        self._past = []

    def tell(self, line):
        """Do a line and return its answer."""
        first, words = _words_of(line)
        if first == "undo":
            return self._undone()
        if first == "names":
            return " ".join(sorted(self._things)) or "none"
        parts = self._parts_of(first, words)
        if first not in MADE:
            return _answer(first, parts)
        thing = _made(first, parts)
        self._past.append((words[0], self._things.get(words[0])))
        self._things[words[0]] = (MADE[first], thing)
        return "ok"

    def _parts_of(self, first, words):
        """List what the words behind the first one stand for, but for a new name, or raise NoName or NoText."""
        parts = []
        for form, word in zip(FORMS[first], words):
            if form in CLASSES:
                parts.append(self._thing_of(form, word))
            elif form != "name":
                parts.append(_value_of(form, word))
        return parts

    def _thing_of(self, kind, name):
        """Return the thing of a class that a name stands for, or raise NoName."""
        if name not in self._things or self._things[name][0] != kind:
            raise NoName(name)
        return self._things[name][1]

    def _undone(self):
        """Take back the last line that kept a thing and is not taken back."""
        if not self._past:
            raise NoUndo()
        name, before = self._past.pop()
        if before is None:
            del self._things[name]
        else:
            self._things[name] = before
        return "ok"

    def many(self):
        """Return the number of lines that can be taken back."""
        return len(self._past)

    def thing(self, name):
        """Return the thing that a name stands for."""
        if not isinstance(name, str) or name not in self._things:
            raise NoName(name)
        return self._things[name][1]

    def kept(self):
        """Return copies of all that the desk keeps, which restore takes."""
        return (dict(self._things), list(self._past))

    def restore(self, kept):
        """Keep again what was kept then."""
        self._things, self._past = kept

    def trial(self, lines):
        """Tell some lines and return their answers; all is as it was then."""
        things, past = self.kept()
        try:
            return [self.tell(line) for line in lines]
        finally:
            self._things, self._past = things, past


def tell_all(desk, lines):
    """Tell some lines and return their answers; if one raises an error, none of them was told."""
    kept = desk.kept()
    try:
        return [desk.tell(line) for line in lines]
    except LabelError:
        desk.restore(kept)
        raise

"""Chains of a book, a rule, a wear, a window and a reader (document, points 8 and 13.2)."""

from surelabels.books import Book, label
from surelabels.cells import is_row_of
from surelabels.errors import BadChain, BadRow, NoText, TooWide
from surelabels.readers import Reader, read
from surelabels.rules import Rule
from surelabels.wears import Wear
from surelabels.windows import Window, swept

KINDS = ("none", "wrong", "unlike")


def _check_classes(book, rule, wear, window, reader):
    """Raise BadChain for the first part that is not of its class."""
    if not isinstance(book, Book):
        raise BadChain("book")
    if not isinstance(rule, Rule):
        raise BadChain("rule")
    if not isinstance(wear, Wear):
        raise BadChain("wear")
    if not isinstance(window, Window):
        raise BadChain("window")
    if not isinstance(reader, Reader):
        raise BadChain("reader")


def _check_fit(book, rule, window, reader):
    """Raise BadChain for the first thing in which parts do not fit one another."""
    if rule.signs != book.signs:
        raise BadChain("signs")
    if reader.width != book.width:
        raise BadChain("width")
    if window.radius > book.width:
        raise BadChain("radius")
    if not all([mark in book.all_marks() for mark in reader.marks.values()]):
        raise BadChain("marks")


class Chain:
    """What becomes of texts: a book prints them, a wear wears them, a window sweeps, a reader reads, a rule judges."""

    def __init__(self, book, rule, wear, window, reader):
        _check_classes(book, rule, wear, window, reader)
        _check_fit(book, rule, window, reader)
        self.book = book
        self.rule = rule
        self.wear = wear
        self.window = window
        self.reader = reader

    def __eq__(self, other):
        return (isinstance(other, Chain) and self.book == other.book and self.rule == other.rule
                and self.wear == other.wear and self.window == other.window and self.reader == other.reader)


def seen(chain, worn):
    """Return the text that is read in a worn row once the window swept it, or None."""
    return read(chain.reader, swept(chain.window, worn))


def is_let(chain, thing):
    """Tell whether a thing is a text of the book's signs that the rule lets."""
    if not isinstance(thing, str) or not all([sign in chain.book.signs for sign in thing]):
        return False
    return chain.rule.lets(thing)


def outcome(chain, text, worn):
    """Return "right", "none" or "wrong": what becomes of the label of a text that was worn to a row."""
    if not is_let(chain, text):
        raise NoText()
    if not is_row_of(worn, len(label(chain.book, text))):
        raise BadRow("worn")
    found = seen(chain, worn)
    if found == text:
        return "right"
    if found is None or not chain.rule.lets(found):
        return "none"
    return "wrong"


def size(chain):
    """Return the number that tells how much there is to be looked through."""
    spread = chain.book.width + chain.window.radius
    return (len(chain.wear.moves) << spread) * len(chain.rule.moves) ** 2


def check_size(chain, most):
    """Raise TooWide for a chain whose size is above a number."""
    if size(chain) > most:
        raise TooWide()


def with_rule(chain, rule):
    """Return the chain with another rule."""
    return Chain(chain.book, rule, chain.wear, chain.window, chain.reader)


def with_wear(chain, wear):
    """Return the chain with another wear."""
    return Chain(chain.book, chain.rule, wear, chain.window, chain.reader)


def with_window(chain, window):
    """Return the chain with another window."""
    return Chain(chain.book, chain.rule, chain.wear, window, chain.reader)


def with_reader(chain, reader):
    """Return the chain with another reader."""
    return Chain(chain.book, chain.rule, chain.wear, chain.window, reader)

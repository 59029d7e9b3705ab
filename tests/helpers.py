"""What the tests share: wrong things of all kinds, checks of errors, and texts in order."""

import contextlib
import itertools
import signal
import unittest

from surelabels import errors
from surelabels.books import Book
from surelabels.chains import Chain
from surelabels.readers import Reader
from surelabels.rules import Rule
from surelabels.wears import Wear
from surelabels.windows import Window, same as same_window

# The attributes of each error class, as the interface lists them.
ATTRIBUTES = {
    "BadRow": ("part",), "BadNumber": ("part",), "BadBook": ("part",), "NoSign": ("sign",),
    "BadText": ("place",), "BadRule": ("part",), "NoState": ("state",), "BadSums": ("part",),
    "OtherSigns": (), "TooMany": ("most",), "BadKind": (), "BadWear": ("state", "index"),
    "BadWindow": ("part",), "BadReader": ("part",), "BadChain": ("part",), "NoText": (),
    "TooWide": (), "NoStanding": (), "NotPlain": (), "BadList": ("index",), "NoLine": (),
    "NoName": ("name",), "NoUndo": (),
}


def nested(thing, depth, inside):
    """Put an object inside `depth` lists, tuples or dicts."""
    for _ in range(depth):
        thing = inside(thing)
    return thing


def things():
    """Return objects of many built-in types and of the package, none of them a set, float or complex number."""
    deep = [nested(0, 30, lambda x: [x]), nested(1, 30, lambda x: (x,)), nested("a", 30, lambda x: {"a": x}),
            nested(None, 15, lambda x: ([x], "a"))]
    plain = [None, True, False, 0, 1, 2, -1, 7, 10 ** 39, -10 ** 39, "", "a", "b", "ab", "A", "0", "start", "stop",
             "one", "-", " ", "\n", "\u00e9", "\u00b2", "\u0663", "\ud800", b"", b"a",
             b"start", bytearray(b"a"), memoryview(b"a")]
    held = [(), [], {}, (0,), (1,), [0], [1], (0, 1), [0, 1], (0, 1, 0), (True,), (False, True), (0, True), (2,),
            (0, 2), (-1,), (None,), ("0",), ("a",), ["a"], ("b", "a"), ("a", "a"), ((),), [[]], ((0,),), ((0, 0),),
            [[0, 0], [1, 1]], (((0, 0, 0, 0),),), {"a": (0, 1)}, {"a": [0, 1]}, {0: (0,)}, {None: None}, {(): ()},
            {"a": {}}, [None] * 3, ["a", 1, None], ("a", [()], {"b": b""})]
    odd = [range(3), range(0), slice(1, 2), len, int, str, object, object(), Ellipsis, NotImplemented, iter([]),
           iter("a"), (x for x in ()), lambda: None, itertools, zip(), enumerate([]), map(len, []), {}.keys(),
           {1: 2}.items(), {}.values(), ValueError("a"), property(), "".join]
    parts = [Book({"a": (0, 1)}, (1, 1), (1, 0)), Rule(("a",), ((0,),), (0,)), Wear([[(0, 0, 0, 0), (1, 1, 0, 0)]]),
             same_window(), Reader(2, {(0, 1): "a"})]
    own = parts + [Chain(*parts), Book, Rule, Wear, Window, Reader, Chain, errors.BadRow("row"), errors.LabelError,
                   errors.NoText()]
    return deep + plain + held + odd + own


def hashable(thing):
    """Tell whether an object can be a key of a dict."""
    try:
        hash(thing)
    except TypeError:
        return False
    return True


def same(one, other):
    """Tell whether two values are equal and, to the bottom, of the same kinds."""
    if type(one) is not type(other):
        return False
    if isinstance(one, (tuple, list)):
        return len(one) == len(other) and all(same(a, b) for a, b in zip(one, other))
    if isinstance(one, dict):
        return same(list(one.items()), list(other.items()))
    return one == other


def texts(signs, longest):
    """Return all texts of these signs of at most this length, in order."""
    return ["".join(text) for length in range(longest + 1) for text in itertools.product(signs, repeat=length)]


def rows(length):
    """Return all rows of this length, in order."""
    return list(itertools.product((0, 1), repeat=length))


@contextlib.contextmanager
def within(seconds):
    """Fail if the rows below take longer than so many seconds; they are broken off then."""
    def broken_off(*_):
        raise AssertionError(f"no answer within {seconds} seconds")
    before = signal.signal(signal.SIGALRM, broken_off)
    signal.setitimer(signal.ITIMER_REAL, seconds)
    try:
        yield
    finally:
        signal.setitimer(signal.ITIMER_REAL, 0)
        signal.signal(signal.SIGALRM, before)


class Case(unittest.TestCase):
    """A test case with checks of errors and of kinds of values."""

    def raises(self, wanted, call, *args, **named):
        """Check that a call raises an error of just the wanted class with the wanted attributes."""
        with self.assertRaises(errors.LabelError) as caught:
            call(*args, **named)
        got = caught.exception
        self.assertIs(type(got), type(wanted), f"{got!r}, wanted {wanted!r}, for {args!r} {named!r}")
        for name in ATTRIBUTES[type(wanted).__name__]:
            value, due = getattr(got, name), getattr(wanted, name)
            self.assertTrue(value is due or same(value, due),
                            f"{name} is {value!r}, not {due!r}, for {args!r} {named!r}")

    def equal(self, got, wanted):
        """Check that two values are equal and of the same kinds to the bottom."""
        self.assertTrue(same(got, wanted), f"{got!r} is not {wanted!r}")

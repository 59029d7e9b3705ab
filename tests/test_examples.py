"""Tests of the document's examples, word for word."""

import doctest
import unittest

from surelabels.rules import Rule
from surelabels.slips import overlooked

BOOKS = '''
>>> from surelabels.books import Book, label, least_apart, text_of
>>> book = Book({"a": (0, 1, 1), "b": (1, 0, 1)}, (1, 1, 1), (0, 0, 1))
>>> label(book, "ab")
(1, 1, 1, 0, 1, 1, 1, 0, 1, 0, 0, 1)
>>> [text_of(book, (1, 1, 1, 0, 0, 1)), text_of(book, (1, 1, 1)), least_apart(book)]
['', None, (1, 'a', 'start')]
'''

RULES = '''
>>> from surelabels.rules import Rule
>>> from surelabels.slips import overlooked, seen_kinds
>>> even = Rule(("a", "b"), ((1, 0), (0, 1)), (0,))
>>> [even.lets("aab"), overlooked(even, "one"), overlooked(even, "swap"), seen_kinds(even)]
[True, None, ('aab', 'aba'), ('one',)]
'''

WEARS = '''
>>> from surelabels.wears import flips, price_of, strokes, worn_rows
>>> price_of(flips(1, 2), (0, 1, 1), (1, 1, 0))
3
>>> [price_of(strokes(5, 2), (0, 0, 0, 0), (1, 1, 0, 1)), price_of(strokes(5, 2), (1, 0), (0, 0))]
[10, None]
>>> worn_rows(flips(1, 2), (0, 1), 2)
[((0, 1), 0), ((1, 1), 1), ((0, 0), 2)]
'''

WINDOWS = '''
>>> from surelabels.windowforms import unlike_row
>>> from surelabels.windows import middle, swept
>>> swept(middle(1), (1, 0, 1, 1, 0))
(0, 1, 1, 1, 0)
>>> [middle(1).table, unlike_row(middle(1), middle(0))]
[(0, 0, 0, 1, 0, 1, 1, 1), (1,)]
'''

PRICES = '''
>>> from surelabels.books import Book
>>> from surelabels.chains import Chain, outcome
>>> from surelabels.prices import least_price, margin
>>> from surelabels.readers import strict
>>> from surelabels.rules import Rule
>>> from surelabels.wears import flips
>>> from surelabels.windows import same
>>> book = Book({"a": (0, 1, 1), "b": (1, 0, 1)}, (1, 1, 1), (0, 0, 1))
>>> even = Rule(("a", "b"), ((1, 0), (0, 1)), (0,))
>>> chain = Chain(book, even, flips(1, 1), same(), strict(book))
>>> outcome(chain, "aa", (1, 1, 1, 0, 0, 1, 0, 1, 1, 0, 0, 1))
'wrong'
>>> margin(chain)
(1, 1, 1)
'''


class TestExamples(unittest.TestCase):

    def told(self, example):
        """Check that each line of an example is answered as it stands there."""
        words = []
        test = doctest.DocTestParser().get_doctest(example, {}, "example", None, 0)
        result = doctest.DocTestRunner(verbose=False).run(test, out=words.append)
        self.assertGreater(result.attempted, 0)
        self.assertEqual(result.failed, 0, "".join(words))

    def test_books(self):
        self.told(BOOKS)

    def test_rules(self):
        self.told(RULES)

    def test_wears(self):
        self.told(WEARS)

    def test_windows(self):
        self.told(WINDOWS)

    def test_prices(self):
        self.told(PRICES)

    def test_remark_behind_the_rules(self):
        even = Rule(("a", "b"), ((1, 0), (0, 1)), (0,))
        self.assertEqual([overlooked(even, kind) for kind in ("twin", "lost", "jump")],
                         [("aa", "bb"), ("b", ""), ("aab", "baa")])

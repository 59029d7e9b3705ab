"""Tests of the document's examples, word for word."""

import doctest
import unittest

BOOKS = '''
>>> from surelabels.books import Book, label, least_apart, text_of
>>> book = Book({"a": (0, 1, 1), "b": (1, 0, 1)}, (1, 1, 1), (0, 0, 1))
>>> label(book, "ab")
(1, 1, 1, 0, 1, 1, 1, 0, 1, 0, 0, 1)
>>> [text_of(book, (1, 1, 1, 0, 0, 1)), text_of(book, (1, 1, 1)), least_apart(book)]
['', None, (1, 'a', 'start')]
'''


class TestExamples(unittest.TestCase):

    def told(self, example):
        """Check that each line of an example is answered as it stands there."""
        words = []
        test = doctest.DocTestParser().get_doctest(example, {}, "example", None, 0)
        result = doctest.DocTestRunner(verbose=False).run(test, out=words.append)
        self.assertGreater(result.attempted, 0)
        self.assertEqual(result.failed, 0, "".join(words))

    def test_books(self):
        self.told(BOOKS)

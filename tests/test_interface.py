"""Tests of the interface: names, arguments and where each one is defined."""

import importlib
import inspect
import unittest

from surelabels.books import Book
from surelabels.readers import Reader
from surelabels.rules import all_texts
from surelabels.wears import flips
from surelabels.windows import same

FUNCTIONS = {
    "cells": ["is_row(thing)", "apart(one, other)", "turned(row)", "cell_number(row)", "row_with(number, width)",
              "blocks(row, width)"],
    "books": ["label(book, text)", "text_of(book, row)", "least_apart(book)", "nearest(book, row)", "both_ways(book)",
              "turned_book(book)"],
    "rules": ["all_texts(signs)", "sums(signs, values, weights, modulus, rest=0)", "lengths(signs, low, high)"],
    "ruleforms": ["both(one, other)", "either(one, other)", "opposite(rule)", "least_rule(rule)",
                  "unlike_text(one, other)", "many_let(rule, length)", "texts_let(rule, most)", "least_let(rule)"],
    "slips": ["slipped(text, kind, signs)", "overlooked(rule, kind)", "seen_kinds(rule)", "origins(rule, text, kind)"],
    "wears": ["price_of(wear, row, worn)", "worn_rows(wear, row, most)", "is_plain(wear)", "flips(dark, light)",
              "strokes(price, length)", "rare(dark, light, pause)", "worn_twice(one, other)"],
    "windows": ["swept(window, row)", "same()", "darkest(radius)", "lightest(radius)", "middle(radius)",
                "behind(one, other)"],
    "windowforms": ["least_window(window)", "unlike_row(one, other)", "never_lightens(window)",
                    "never_darkens(window)", "rises(window)", "rests(window, row)", "many_rest(window, length)",
                    "swept_till(window, row, most)"],
    "readers": ["strict(book)", "near(book, most)", "read(reader, row)"],
    "chains": ["seen(chain, worn)", "outcome(chain, text, worn)", "size(chain)", "with_rule(chain, rule)",
               "with_wear(chain, wear)", "with_window(chain, window)", "with_reader(chain, reader)"],
    "standings": ["begins(chain)", "steps(chain, standing)", "ends(chain, standing)"],
    "prices": ["least_price(chain, kind)", "least_case(chain, kind)", "sure(chain)", "margin(chain)"],
    "papers": ["heights(chain, kind, price)", "check_heights(chain, kind, price, thing)", "closed(chain, kind)",
               "check_closed(chain, kind, thing)"],
    "counting": ["numbers(chain, length, most)"],
    "mending": ["prices_of(chain, worn, most)", "mended(chain, worn)", "is_one(chain, worn)"],
    "meetings": ["least_meeting(chain)", "meeting(chain)", "meeting_heights(chain, total)",
                 "check_meeting_heights(chain, total, thing)"],
    "design": ["strongest(chains, kind)", "cheapest_windows(chain, offers, kind, price)",
               "spread_rows(rows, count, wear)", "gap(wear, one, other)"],
    "scans": ["fitting(chain, scans, most)", "sure_signs(chain, scans, most)", "least_scans(chain, scans, text)",
              "voted(reader, rows)"],
    "texts": ["show_row(row)", "read_row(text)", "show_book(book)", "read_book(text)", "show_rule(rule)",
              "read_rule(text)", "show_wear(wear)", "read_wear(text)", "show_window(window)", "read_window(text)"],
    "desk": ["tell_all(desk, lines)"],
}

# For each class its arguments, its methods, and its fields with what makes an object.
CLASSES = {
    "books": {"Book": ("(patterns, start, stop)", ["pattern(mark)", "all_marks()"],
                       ["patterns", "start", "stop", "signs", "width"],
                       ({"a": (0, 0)}, (0, 1), (1, 0)))},
    "rules": {"Rule": ("(signs, moves, good)", ["last(text)", "lets(text)", "move(state, sign)"],
                       ["signs", "moves", "good"], (("a",), ((0,),), (0,)))},
    "wears": {"Wear": ("(moves)", [], ["moves"], ((((0, 0, 0, 0), (1, 1, 0, 0)),),))},
    "windows": {"Window": ("(radius, table)", [], ["radius", "table"], (0, (0, 1)))},
    "readers": {"Reader": ("(width, marks)", ["mark(row)"], ["width", "marks"], (1, {(0,): "a"}))},
    "chains": {"Chain": ("(book, rule, wear, window, reader)", [], ["book", "rule", "wear", "window", "reader"],
                         (Book({"a": (0, 0)}, (0, 1), (1, 0)), all_texts(("a",)), flips(1, 1), same(),
                          Reader(2, {(0, 0): "a"})))},
    "desk": {"Desk": ("()", ["tell(line)", "many()", "thing(name)", "trial(lines)"], [], ())},
}


def arguments(call):
    """Return the arguments of a function as the interface writes them."""
    parts = []
    for name, part in inspect.signature(call).parameters.items():
        if part.kind is not part.POSITIONAL_OR_KEYWORD:
            raise AssertionError(f"{name} cannot be passed by position and by name")
        parts.append(name if part.default is part.empty else f"{name}={part.default}")
    return f"({', '.join(parts)})"


class TestInterface(unittest.TestCase):

    def test_functions(self):
        for file, wanted in FUNCTIONS.items():
            module = importlib.import_module("surelabels." + file)
            for line in wanted:
                with self.subTest(file, line=line):
                    call = getattr(module, line.split("(")[0])
                    self.assertTrue(inspect.isfunction(call))
                    self.assertEqual(call.__module__, module.__name__)
                    self.assertEqual(call.__name__ + arguments(call), line)

    def test_classes(self):
        for file, wanted in CLASSES.items():
            module = importlib.import_module("surelabels." + file)
            for name, (made, methods, fields, passed) in wanted.items():
                with self.subTest(file, name=name):
                    kind = getattr(module, name)
                    self.assertTrue(inspect.isclass(kind))
                    self.assertEqual(kind.__module__, module.__name__)
                    self.assertEqual(arguments(kind), made)
                    thing = kind(*passed)
                    for line in methods:
                        self.assertIn(line.split("(")[0], vars(kind))
                        call = getattr(thing, line.split("(")[0])
                        self.assertEqual(call.__name__ + arguments(call), line)
                    # Desks are not compared.
                    self.assertTrue("__eq__" in vars(kind) or name == "Desk")
                    for field in fields:
                        self.assertTrue(hasattr(thing, field), field)

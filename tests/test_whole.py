"""Tests of points 0.2 to 0.5 over the whole program: each function of the interface, called in many ways."""

import copy
import importlib
import itertools

from surelabels import errors
from surelabels.books import Book, label
from surelabels.cells import is_row
from surelabels.chains import Chain
from surelabels.desk import Desk
from surelabels.meetings import check_meeting_heights, meeting_heights
from surelabels.papers import check_heights, closed, heights
from surelabels.readers import Reader, strict
from surelabels.rules import Rule, all_texts, sums
from surelabels.standings import begins
from surelabels.wears import Wear, flips, rare
from surelabels.windows import Window, middle, same
from tests.helpers import Case
from tests.helpers import same as alike
from tests.test_books import PATTERNS, START, STOP, book
from tests.test_chains import EVEN, chain, sized
from tests.test_desk import LINES, told
from tests.test_interface import CLASSES, FUNCTIONS
from tests.told import STAY

DEAR = chain(wear=flips(3, 2))
STILL = chain(wear=Wear((STAY,)))
ROW = (1, 1, 1, 1, 0, 1, 0, 0, 1)

# For each function of the interface and each class arguments by name, in the order of the interface.
CALLS = {
    "cells": {"is_row": {"thing": (0, 1)}, "apart": {"one": (0, 1, 1), "other": (1, 1, 0)},
              "turned": {"row": (0, 1, 1)}, "cell_number": {"row": (1, 0, 1)}, "row_with": {"number": 5, "width": 4},
              "blocks": {"row": (0, 1, 1, 0), "width": 2}},
    "books": {"Book": {"patterns": PATTERNS, "start": START, "stop": STOP}, "label": {"book": book(), "text": "ab"},
              "text_of": {"book": book(), "row": ROW}, "least_apart": {"book": book()},
              "nearest": {"book": book(), "row": (0, 0, 0)}, "both_ways": {"book": book()},
              "turned_book": {"book": book()}},
    "rules": {"Rule": {"signs": ("a", "b"), "moves": ((1, 0), (0, 1)), "good": (0,)},
              "all_texts": {"signs": ("a", "b")},
              "sums": {"signs": ("a", "b"), "values": (1, 2), "weights": (1, 3), "modulus": 7, "rest": 4},
              "lengths": {"signs": ("a", "b"), "low": 1, "high": 3}},
    "ruleforms": {"both": {"one": EVEN, "other": sums(("a", "b"), (1, 2), (1,), 3)},
                  "either": {"one": EVEN, "other": sums(("a", "b"), (1, 2), (1,), 3)}, "opposite": {"rule": EVEN},
                  "least_rule": {"rule": EVEN}, "unlike_text": {"one": EVEN, "other": all_texts(("a", "b"))},
                  "many_let": {"rule": EVEN, "length": 9}, "texts_let": {"rule": EVEN, "most": 5},
                  "least_let": {"rule": EVEN}},
    "slips": {"slipped": {"text": "ab", "kind": "one", "signs": ("a", "b")},
              "overlooked": {"rule": EVEN, "kind": "swap"}, "seen_kinds": {"rule": EVEN},
              "origins": {"rule": EVEN, "text": "ab", "kind": "one"}},
    "wears": {"Wear": {"moves": (STAY + ((0, 1, 2, 0),),)},
              "price_of": {"wear": flips(1, 2), "row": (0, 1, 1), "worn": (1, 1, 0)},
              "worn_rows": {"wear": flips(1, 2), "row": (0, 1), "most": 2}, "is_plain": {"wear": flips(1, 2)},
              "flips": {"dark": 1, "light": 2}, "strokes": {"price": 3, "length": 2},
              "rare": {"dark": 1, "light": 2, "pause": 3}, "worn_twice": {"one": flips(1, 2), "other": rare(2, 1, 1)}},
    "windows": {"Window": {"radius": 0, "table": (1, 0)}, "swept": {"window": middle(1), "row": (1, 0, 1)}, "same": {},
                "darkest": {"radius": 1}, "lightest": {"radius": 1}, "middle": {"radius": 1},
                "behind": {"one": middle(1), "other": Window(0, (1, 0))}},
    "windowforms": {"least_window": {"window": Window(1, (0, 0, 1, 1) * 2)},
                    "unlike_row": {"one": middle(1), "other": same()}, "never_lightens": {"window": middle(1)},
                    "never_darkens": {"window": middle(1)}, "rises": {"window": Window(0, (1, 0))},
                    "rests": {"window": middle(1), "row": (0, 1, 1)}, "many_rest": {"window": middle(1), "length": 9},
                    "swept_till": {"window": middle(1), "row": (0, 1, 0, 1), "most": 3}},
    "readers": {"Reader": {"width": 1, "marks": {(0,): "a", (1,): "stop"}}, "strict": {"book": book()},
                "near": {"book": book(), "most": 1}, "read": {"reader": strict(book()), "row": ROW}},
    "chains": {"Chain": {"book": book(), "rule": EVEN, "wear": flips(1, 1), "window": same(), "reader": strict(book())},
               "seen": {"chain": chain(), "worn": ROW}, "outcome": {"chain": chain(), "text": "b", "worn": ROW},
               "size": {"chain": chain()}, "with_rule": {"chain": chain(), "rule": all_texts(("a", "b"))},
               "with_wear": {"chain": chain(), "wear": flips(2, 2)},
               "with_window": {"chain": chain(), "window": middle(1)},
               "with_reader": {"chain": chain(), "reader": Reader(3, {})}},
    "standings": {"begins": {"chain": chain()}, "steps": {"chain": chain(), "standing": begins(chain())[0][1]},
                  "ends": {"chain": chain(), "standing": begins(chain())[0][1]}},
    "prices": {"least_price": {"chain": DEAR, "kind": "wrong"}, "least_case": {"chain": DEAR, "kind": "wrong"},
               "sure": {"chain": DEAR}, "margin": {"chain": DEAR}},
    "papers": {"heights": {"chain": DEAR, "kind": "none", "price": 2},
               "check_heights": {"chain": DEAR, "kind": "none", "price": 2, "thing": heights(DEAR, "none", 2)},
               "closed": {"chain": STILL, "kind": "wrong"},
               "check_closed": {"chain": STILL, "kind": "wrong", "thing": closed(STILL, "wrong")}},
    "counting": {"numbers": {"chain": chain(), "length": 2, "most": 3}},
    "mending": {"prices_of": {"chain": chain(), "worn": ROW, "most": 3}, "mended": {"chain": chain(), "worn": ROW},
                "is_one": {"chain": chain(), "worn": ROW}},
    "meetings": {"least_meeting": {"chain": chain()}, "meeting": {"chain": chain()},
                 "meeting_heights": {"chain": chain(), "total": 4},
                 "check_meeting_heights": {"chain": chain(), "total": 4, "thing": meeting_heights(chain(), 4)}},
    "design": {"strongest": {"chains": [chain(), DEAR], "kind": "none"},
               "cheapest_windows": {"chain": DEAR, "offers": [(middle(1), 2), (Window(0, (0, 0)), 1)], "kind": "wrong",
                                    "price": 9},
               "spread_rows": {"rows": [(0, 0), (0, 1), (1, 1)], "count": 2, "wear": flips(1, 2)},
               "gap": {"wear": flips(1, 2), "one": (0, 1), "other": (1, 0)}},
    "scans": {"fitting": {"chain": chain(), "scans": [ROW, ROW], "most": 3},
              "sure_signs": {"chain": chain(), "scans": [ROW, ROW], "most": 3},
              "least_scans": {"chain": chain(), "scans": [ROW, ROW], "text": "b"},
              "voted": {"reader": strict(book()), "rows": [ROW, ROW, ROW]}},
    "texts": {"show_row": {"row": (0, 1)}, "read_row": {"text": "01"}, "show_book": {"book": book()},
              "read_book": {"text": "start 111 stop 001 a 011"}, "show_rule": {"rule": EVEN},
              "read_rule": {"text": "ab good 0 1,0 0,1"}, "show_wear": {"wear": flips(1, 2)},
              "read_wear": {"text": "0>0:0:0,1>1:0:0"}, "show_window": {"window": same()},
              "read_window": {"text": "0 01"}},
    "desk": {"tell_all": {"desk": Desk(), "lines": ["names"]}},
}

# For each class a maker of an object and its methods, with arguments by name.
METHODS = {
    "Book": (book, {"pattern": {"mark": "a"}, "all_marks": {}}),
    "Rule": (lambda: EVEN, {"last": {"text": "ab"}, "lets": {"text": "ab"}, "move": {"state": 0, "sign": "a"}}),
    "Reader": (lambda: strict(book()), {"mark": {"row": (0, 0, 1)}}),
    "Desk": (told, {"tell": {"line": "names"}, "many": {}, "thing": {"name": "b"},
                    "trial": {"lines": ["undo", "names"]}}),
}


def calls():
    """List the pairs of a function, a class or a method and its arguments by name."""
    found = []
    for file, named in CALLS.items():
        module = importlib.import_module("surelabels." + file)
        found += [(getattr(module, name), arguments) for name, arguments in named.items()]
    for make, methods in METHODS.values():
        found += [(getattr(make(), name), arguments) for name, arguments in methods.items()]
    return found


def shown(thing):
    """Return a thing with all that it is made of, so that it can be compared to the bottom."""
    if isinstance(thing, (Book, Rule, Wear, Window, Reader, Chain)):
        names = CLASSES[type(thing).__module__.split(".")[1]][type(thing).__name__][2]
        return (type(thing).__name__, [shown(getattr(thing, name)) for name in names])
    if isinstance(thing, (list, tuple)):
        return (type(thing).__name__, [shown(item) for item in thing])
    if isinstance(thing, dict):
        return ("dict", [(shown(key), shown(thing[key])) for key in thing])
    return (type(thing).__name__, thing if not isinstance(thing, Desk) else None)


def as_lists(thing):
    """Return a thing with lists for all tuples but rows."""
    if isinstance(thing, (tuple, list)) and not is_row(thing):
        return [as_lists(item) for item in thing]
    return thing


def spoil(thing):
    """Empty a list or dict and all lists and dicts in it."""
    for item in list(thing.values() if isinstance(thing, dict) else thing if isinstance(thing, (list, tuple)) else ()):
        spoil(item)
    if isinstance(thing, (list, dict)):
        thing.clear()


class TestCalls(Case):

    def test_each_function_of_the_interface_is_called_here(self):
        for file, lines in FUNCTIONS.items():
            self.assertEqual([line.split("(")[0] for line in lines],
                             [name for name in CALLS[file] if name not in CLASSES.get(file, {})], file)
        self.assertEqual([file for file in CALLS if file not in FUNCTIONS], [])
        for file, classes in CLASSES.items():
            for name, (_, methods, _, _) in classes.items():
                self.assertEqual([line.split("(")[0] for line in methods], list(METHODS.get(name, (0, {}))[1]), name)

    def test_by_position_and_by_names_in_any_order(self):
        for call, arguments in calls():
            wanted = shown(call(*arguments.values()))
            orders = list(itertools.permutations(arguments))
            for order in orders[:30] + orders[-5:]:
                named = {name: arguments[name] for name in order}
                self.assertEqual(shown(call(**named)), wanted, call.__name__)
            for many in range(len(arguments)):
                ahead = list(arguments.values())[:many]
                behind = {name: arguments[name] for name in list(arguments)[many:]}
                self.assertEqual(shown(call(*ahead, **behind)), wanted, call.__name__)

    def test_arguments_stay_as_they_are(self):
        for call, arguments in calls():
            before = {name: shown(thing) for name, thing in arguments.items()}
            call(**arguments)
            self.assertEqual({name: shown(thing) for name, thing in arguments.items()}, before, call.__name__)

    def test_the_same_call_gives_an_equal_result_and_new_lists(self):
        for call, arguments in calls():
            first, second = call(**arguments), call(**arguments)
            wanted = shown(second)
            self.assertEqual(shown(first), wanted, call.__name__)
            if isinstance(first, (list, tuple, dict)):
                spoil(first)
                self.assertEqual(shown(second), wanted, call.__name__)
                self.assertEqual(shown(call(**arguments)), wanted, call.__name__)
                if isinstance(first, (list, dict)):
                    self.assertIsNot(first, second, call.__name__)

    def test_what_is_told_is_not_what_was_passed(self):
        for call, arguments in calls():
            passed = {name: copy.copy(thing) if isinstance(thing, (list, dict)) else thing
                      for name, thing in arguments.items()}
            found = call(**passed)
            wanted = shown(found)
            for thing in passed.values():
                if isinstance(thing, (list, dict)):
                    thing.clear()
            self.assertEqual(shown(found), wanted, call.__name__)

    def test_dicts_have_their_keys_in_ascending_order(self):
        for call, arguments in calls():
            found = call(**arguments)
            if isinstance(found, dict) and call.__name__ != "heights":
                self.assertEqual(list(found), sorted(found), call.__name__)
        self.equal(list(Book({"b": (0, 1), "a": (1, 0)}, (0, 0), (1, 1)).patterns), ["a", "b"])
        self.equal(list(Reader(1, {(1,): "a", (0,): "b"}).marks), [(0,), (1,)])

    def test_lists_for_tuples(self):
        taken = ("Rule", "all_texts", "sums", "lengths", "slipped", "Wear", "Window", "steps", "ends", "check_closed",
                 "strongest", "cheapest_windows", "spread_rows", "fitting", "sure_signs", "least_scans", "voted")
        for call, arguments in calls():
            if call.__name__ in taken:
                wanted = shown(call(**arguments))
                for named in ({name: as_lists(thing) for name, thing in arguments.items()},
                              {name: tuple(thing) if isinstance(thing, list) else thing
                               for name, thing in arguments.items()}):
                    if call.__name__ in ("steps", "ends"):
                        named = {**arguments, "standing": list(arguments["standing"])}
                    self.assertEqual(shown(call(**named)), wanted, call.__name__)
        # The table of a window may be a list, though it looks like a row; a row may not.
        self.assertTrue(Window(0, [1, 0]) == Window(0, (1, 0)))
        for make in (lambda row: Book({"a": row}, (0, 0), (1, 1)), lambda row: Book({"a": (0, 1)}, row, (1, 1)),
                     lambda row: Reader(2, {(0, 1): "a"}).mark(row)):
            self.assertRaises(errors.LabelError, make, [1, 0])
            make((1, 0))


class TestObjects(Case):

    def test_what_was_passed_and_is_changed_then(self):
        patterns = dict(PATTERNS)
        made = Book(patterns, START, STOP)
        patterns["a"] = (0, 0, 0)
        patterns["c"] = (0, 1, 0)
        self.assertTrue(made == book())
        signs, moves, good = ["a", "b"], [[1, 0], [0, 1]], [0]
        rule = Rule(signs, moves, good)
        signs.append("c")
        moves[0][0] = 0
        moves.append([0, 0])
        good.clear()
        self.assertTrue(rule == EVEN)
        places = [[[0, 0, 0, 0], [0, 1, 1, 0], [1, 1, 0, 0], [1, 0, 1, 0]]]
        wear = Wear(places)
        places[0][1][2] = 7
        places[0].pop()
        places.append([])
        self.assertTrue(wear == flips(1, 1))
        table = [0, 1]
        window = Window(0, table)
        table[0] = 1
        self.assertTrue(window == same())
        marks = {(0, 0): "a"}
        reader = Reader(2, marks)
        marks[(0, 1)] = "b"
        self.equal(reader.marks, {(0, 0): "a"})

    def test_what_was_told_and_is_changed_then(self):
        made, reader = book(), strict(book())
        made.patterns.clear()
        reader.marks.clear()
        made.patterns["a"] = (0, 0, 0)
        self.assertTrue(made == book())
        self.assertTrue(reader == strict(book()))
        self.assertIsNot(made.patterns, made.patterns)
        self.assertIsNot(reader.marks, reader.marks)

    def test_fields_are_tuples_to_the_bottom(self):
        rule = Rule(["a", "b"], [[1, 0], [0, 1]], [0])
        self.equal((rule.signs, rule.moves, rule.good), (("a", "b"), ((1, 0), (0, 1)), (0,)))
        self.equal(Wear([[[0, 0, 0, 0], [1, 1, 0, 0]]]).moves, (STAY,))
        self.equal(Window(0, [0, 1]).table, (0, 1))

    def test_the_order_of_keys_means_nothing(self):
        for order in itertools.permutations([("a", (0, 1, 1)), ("b", (1, 0, 1)), ("c", (0, 0, 0))]):
            self.assertTrue(Book(dict(order), START, STOP) == Book({"c": (0, 0, 0), **PATTERNS}, START, STOP))
        for order in itertools.permutations([((0, 1), "a"), ((1, 0), "b"), ((0, 0), "stop")]):
            self.assertTrue(Reader(2, dict(order)) == Reader(2, {(0, 0): "stop", (0, 1): "a", (1, 0): "b"}))
        paper = heights(DEAR, "none", 2)
        self.assertIs(check_heights(DEAR, "none", 2, dict(reversed(list(paper.items())))), True)
        paper = meeting_heights(chain(), 4)
        self.assertIs(check_meeting_heights(chain(), 4, dict(reversed(list(paper.items())))), True)

    def test_objects_of_unlike_fields_are_not_equal(self):
        for file, classes in CLASSES.items():
            for name, (_, _, fields, passed) in classes.items():
                if name == "Desk":
                    continue
                kind = getattr(importlib.import_module("surelabels." + file), name)
                self.assertTrue(kind(*passed) == kind(*passed))
                self.assertFalse(kind(*passed) != kind(*passed))
        self.assertFalse(chain() == DEAR)
        self.assertFalse(flips(1, 2) == flips(2, 1))


class TestErrors(Case):

    def test_wrong_arguments_raise_the_error_that_is_described_first(self):
        # All arguments wrong at once: None is never right, but for a thing that is only judged.
        first = {"apart": errors.BadRow("one"), "row_with": errors.BadNumber("width"), "blocks": errors.BadRow("row"),
                 "Book": errors.BadBook("patterns"), "Rule": errors.BadRule("signs"), "sums": errors.BadRule("signs"),
                 "lengths": errors.BadRule("signs"), "slipped": errors.BadRule("signs"), "Wear": errors.BadWear(-1, -1),
                 "flips": errors.BadNumber("dark"), "strokes": errors.BadNumber("price"),
                 "rare": errors.BadNumber("dark"),
                 "Window": errors.BadWindow("radius"), "Reader": errors.BadReader("width"),
                 "Chain": errors.BadChain("book"), "strongest": errors.BadList(-1), "spread_rows": errors.BadList(-1),
                 "gap": errors.BadWear(-1, -1), "show_row": errors.BadRow("row"), "read_row": errors.NoText(),
                 "read_book": errors.NoText(), "read_rule": errors.NoText(), "read_wear": errors.NoText(),
                 "read_window": errors.NoText(), "darkest": errors.BadNumber("radius"),
                 "lightest": errors.BadNumber("radius"), "middle": errors.BadNumber("radius"),
                 "all_texts": errors.BadRule("signs"), "tell": errors.NoLine(), "thing": errors.NoName(None),
                 "pattern": errors.NoSign(None), "last": errors.BadText(-1), "move": errors.NoState(None),
                 "mark": errors.BadRow("row")}
        met = {}
        for call, arguments in calls():
            if call.__name__ in first:
                self.raises(first[call.__name__], call, *[None] * len(arguments))
                met[call.__name__] = True
        self.assertEqual(sorted(met), sorted(first))

    def test_wrong_arguments_behind_right_things(self):
        first = {"label": errors.BadText(-1), "text_of": errors.BadRow("row"), "nearest": errors.BadRow("row"),
                 "many_let": errors.BadNumber("length"), "texts_let": errors.BadNumber("most"),
                 "overlooked": errors.BadKind(), "origins": errors.BadText(-1), "price_of": errors.BadRow("row"),
                 "worn_rows": errors.BadRow("row"), "swept": errors.BadRow("row"), "rests": errors.BadRow("row"),
                 "many_rest": errors.BadNumber("length"), "swept_till": errors.BadRow("row"),
                 "near": errors.BadNumber("most"), "read": errors.BadRow("row"), "seen": errors.BadRow("row"),
                 "outcome": errors.NoText(), "with_rule": errors.BadChain("rule"), "with_wear": errors.BadChain("wear"),
                 "with_window": errors.BadChain("window"), "with_reader": errors.BadChain("reader"),
                 "steps": errors.NoStanding(), "ends": errors.NoStanding(), "least_price": errors.BadKind(),
                 "least_case": errors.BadKind(), "heights": errors.BadKind(), "check_heights": errors.BadKind(),
                 "closed": errors.BadKind(), "check_closed": errors.BadKind(), "numbers": errors.BadNumber("length"),
                 "prices_of": errors.BadRow("worn"), "mended": errors.BadRow("worn"), "is_one": errors.BadRow("worn"),
                 "meeting_heights": errors.BadNumber("total"), "check_meeting_heights": errors.BadNumber("total"),
                 "cheapest_windows": errors.BadList(-1), "fitting": errors.BadList(-1),
                 "sure_signs": errors.BadList(-1),
                 "least_scans": errors.BadList(-1), "voted": errors.BadList(-1)}
        met = {}
        for call, arguments in calls():
            if call.__name__ in first:
                right = list(arguments.values())[0]
                self.raises(first[call.__name__], call, right, *[None] * (len(arguments) - 1))
                met[call.__name__] = True
        self.assertEqual(sorted(met), sorted(first))


class TestTooWide(Case):

    def few(self, made):
        """Return the names of the functions that raise TooWide for a chain, each called with right arguments."""
        row = label(made.book, "")
        rest = {"kind": "none", "price": 0, "thing": {}, "total": 0, "length": 0, "most": 0, "worn": row, "text": "",
                "scans": [row], "offers": [(made.window, 0)], "book": made.book, "rule": made.rule, "wear": made.wear,
                "window": made.window, "reader": made.reader, "chain": made, "chains": [made],
                "standing": begins(made)[0][1]}
        found = []
        for call, arguments in calls():
            if "chain" in arguments or "chains" in arguments:
                try:
                    call(**{name: rest[name] for name in arguments})
                except errors.TooWide:
                    found.append(call.__name__)
        return sorted(found)

    def test_which_functions_raise_it_and_at_which_number(self):
        prices = ["closed", "heights", "least_case", "least_price", "margin", "strongest", "sure"]
        meetings = ["least_meeting", "meeting", "meeting_heights"]
        # The sizes are 2000 and 2028, 20000 and 20480, and 4915200; with the window same() they are smaller.
        self.equal(self.few(sized(2, 2, 5, 5)), [])
        self.equal(self.few(sized(4, 0, 5, 5)), [])
        self.equal(self.few(sized(2, 0, 3, 13)), ["numbers"])
        self.equal(self.few(sized(3, 2, 1, 25)), ["numbers"])
        self.equal(self.few(sized(3, 3, 5, 8)), sorted(prices + ["numbers"]))
        self.equal(self.few(sized(6, 3, 6, 40)), sorted(prices + meetings + ["cheapest_windows", "numbers"]))
        # Standing places times states: 60, and 62 and 80 above it.
        self.equal(self.few(sized(2, 0, 2, 30)), ["numbers"])
        self.equal(self.few(sized(2, 0, 2, 31)), sorted(meetings + ["numbers"]))
        self.equal(self.few(sized(2, 0, 2, 40)), sorted(meetings + ["numbers"]))


class TestResults(Case):

    def test_what_is_told_may_be_passed_on(self):
        desk = Desk()
        for line in LINES:
            desk.tell(line)
        made = desk.thing("c")
        modules = {file: importlib.import_module("surelabels." + file) for file in CALLS}
        total, one, other, worn = modules["meetings"].meeting(made)
        for text in (one, other):
            self.assertTrue(made.rule.lets(text))
            self.equal(len(modules["books"].label(made.book, text)), len(worn))
        self.equal(modules["mending"].mended(made, worn)[0] * 2, total)
        price, text, row = modules["prices"].least_case(made, "wrong")
        self.equal(modules["chains"].outcome(made, text, row), "wrong")
        self.equal(modules["scans"].fitting(made, [row, row], 2 * price)[-1][0] <= 2 * price, True)
        self.assertTrue(alike(modules["texts"].read_row(modules["texts"].show_row(row)), row))

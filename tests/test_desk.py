"""Tests of surelabels.desk: points 16.1 and 16.2."""

import random

from surelabels.books import Book, label
from surelabels.chains import Chain, outcome, seen
from surelabels.desk import Desk, tell_all
from surelabels.errors import (BadChain, BadKind, BadNumber, BadRow, BadRule, BadSums, BadText, LabelError, NoLine,
                               NoName, NoText, NoUndo, TooMany, TooWide)
from surelabels.mending import mended
from surelabels.prices import least_price, margin
from surelabels.readers import Reader, near, strict
from surelabels.rules import Rule, sums
from surelabels.slips import seen_kinds
from surelabels.texts import show_book, show_row, show_rule, show_wear, show_window
from surelabels.wears import Wear, flips, price_of, strokes
from surelabels.windows import Window, middle, same, swept
from tests.helpers import Case, things
from tests.test_books import book
from tests.test_chains import EVEN, chain, sized
from tests.test_mending import branching
from tests.told import prices_of_rows, some_chains, text_read

# Lines that keep the chain of the document's example under the name c, and all its parts.
LINES = ["book b start 111 stop 001 a 011 b 101", "rule even ab good 0 1,0 0,1", "flips w 1 1", "window same 0 01",
         "strict s b", "chain c b even w same s"]

# For each first word a line that has its form, for a desk that was told LINES.
FORMS = {
    "book": "book x start 11 stop 01 z 10", "rule": "rule x a good - 0", "wear": "wear x 0>0:0:0,1>1:0:0",
    "window": "window x 0 10", "sums": "sums x ab 1,2 3,1 7 0", "flips": "flips x 3 4", "strokes": "strokes x 3 2",
    "middle": "middle x 2", "strict": "strict x b", "near": "near x b 1", "chain": "chain x b even w same s",
    "undo": "undo", "label": "label b ab", "price": "price w 01 10", "sweep": "sweep same 0110",
    "read": "read c 111001", "lets": "lets even aab", "slips": "slips even", "margin": "margin c",
    "case": "case c none", "mend": "mend c 111001", "names": "names",
}

KEEPS = ("book", "rule", "wear", "window", "sums", "flips", "strokes", "middle", "strict", "near", "chain")


def told(lines=LINES):
    """Return a desk that was told some lines."""
    desk = Desk()
    for line in lines:
        if desk.tell(line) != "ok":
            raise AssertionError(line)
    return desk


def all_of(desk):
    """Return what can be seen of a desk: its names, the things and the number of lines that can be taken back."""
    names = desk.tell("names")
    kept = [] if names == "none" else names.split(" ")
    return names, [desk.thing(name) for name in kept], desk.many()


def history_of(desk):
    """Return what can be seen of a desk as one line after the other is taken back; nothing is left of it."""
    seen_so_far = [all_of(desk)]
    while desk.many():
        desk.tell("undo")
        seen_so_far.append(all_of(desk))
    return seen_so_far


class TestKeeps(Case):

    def keeps(self, desk, line, thing):
        """Check that a line keeps a thing that is equal to another one, under the line's second word."""
        many = desk.many()
        self.equal(desk.tell(line), "ok")
        name = line.split(" ")[1]
        self.assertIs(type(desk.thing(name)), type(thing))
        self.assertTrue(desk.thing(name) == thing, line)
        self.equal(desk.many(), many + 1)

    def test_by_texts(self):
        desk = Desk()
        self.keeps(desk, "book b start 111 stop 001 a 011 b 101", book())
        self.keeps(desk, "rule r ab good 0 1,0 0,1", EVEN)
        self.keeps(desk, "rule r ab good - 0,0", Rule(("a", "b"), ((0, 0),), ()))
        self.keeps(desk, "wear w 0>0:0:0,0>1:1:0,1>1:0:0,1>0:2:0", flips(1, 2))
        self.keeps(desk, "window v 1 00010111", middle(1))
        for made in some_chains(20, 281):
            self.keeps(desk, "book x " + show_book(made.book), made.book)
            self.keeps(desk, "rule x " + show_rule(made.rule), made.rule)
            self.keeps(desk, "wear x " + show_wear(made.wear), made.wear)
            self.keeps(desk, "window x " + show_window(made.window), made.window)

    def test_makers(self):
        desk = told()
        self.keeps(desk, "sums r ab 1,2 3,1 7 0", sums(("a", "b"), (1, 2), (3, 1), 7, 0))
        self.keeps(desk, "sums r 0xz 0,10,200 1 9 8", sums(("0", "x", "z"), (0, 10, 200), (1,), 9, 8))
        self.keeps(desk, "sums r a " + "9" * 40 + " 5 2 1", sums(("a",), (10 ** 40 - 1,), (5,), 2, 1))
        self.keeps(desk, "flips f 0 12", flips(0, 12))
        self.keeps(desk, "flips f " + "9" * 40 + " 5", flips(10 ** 40 - 1, 5))
        self.keeps(desk, "strokes t 3 5", strokes(3, 5))
        self.keeps(desk, "middle m 3", middle(3))
        self.keeps(desk, "middle m 0", same())
        self.keeps(desk, "strict t b", strict(book()))
        self.keeps(desk, "near n b 1", near(book(), 1))
        self.keeps(desk, "near n b 0", near(book(), 0))
        self.keeps(desk, "chain d b even w same s", chain())
        self.keeps(desk, "chain d b even f m n", Chain(book(), EVEN, flips(10 ** 40 - 1, 5), same(), near(book(), 0)))

    def test_names(self):
        desk = Desk()
        for name in ("a", "z", "abcdefgh", "zzzzzzzz", "book", "names", "undo", "none", "ok"):
            self.keeps(desk, f"middle {name} 1", middle(1))
            self.keeps(desk, f"flips {name} 1 1", flips(1, 1))
        self.equal(desk.tell("names"), "a abcdefgh book names none ok undo z zzzzzzzz")

    def test_a_later_thing_takes_the_place(self):
        desk = told()
        self.equal(desk.tell("label b ab"), "111011101001")
        desk.tell("book b start 00 stop 11 a 10 b 01")
        self.equal(desk.tell("label b ab"), "00100111")
        self.equal(desk.tell("names"), "b c even s same w")
        # What was made of the earlier book stays as it is.
        self.assertTrue(desk.thing("c") == chain())
        self.assertTrue(desk.thing("s") == strict(book()))
        desk.tell("middle b 1")
        self.raises(NoName("b"), desk.tell, "label b ab")
        self.equal(desk.tell("sweep b 101"), "010")
        self.raises(NoName("b"), desk.tell, "strict s b")
        self.raises(NoName("b"), desk.tell, "near s b 1")
        self.assertTrue(desk.thing("s") == strict(book()))

    def test_names_ascending(self):
        desk = Desk()
        self.equal(desk.tell("names"), "none")
        for name in ("b", "ab", "z", "a", "ba"):
            desk.tell(f"flips {name} 1 1")
        self.equal(desk.tell("names"), "a ab b ba z")


class TestAnswers(Case):

    def test_label(self):
        desk = told()
        self.equal(desk.tell("label b ab"), "111011101001")
        self.equal(desk.tell("label b "), "111001")
        self.equal(desk.tell("label b " + "a" * 60), show_row(label(book(), "a" * 60)))
        for text, place in (("c", 0), ("ac", 1), ("abA", 2), ("-", 0), ("ab-", 2), ("a\tb", 1), ("a\n", 1),
                            ("\u00e9", 0)):
            self.raises(BadText(place), desk.tell, "label b " + text)
        self.raises(NoLine(), desk.tell, "label b")
        self.raises(NoLine(), desk.tell, "label b  ")
        self.raises(NoLine(), desk.tell, "label b a ")

    def test_price(self):
        desk = told()
        desk.tell("flips f 1 2")
        desk.tell("strokes t 5 2")
        self.equal(desk.tell("price f 011 110"), "3")
        self.equal(desk.tell("price t 0000 1101"), "10")
        self.equal(desk.tell("price t 10 00"), "none")
        self.equal(desk.tell("price f - -"), "0")
        self.equal(desk.tell("price f 0 0"), "0")
        for line in ("price f 01 1", "price f - 0", "price f 0 -"):
            self.raises(BadRow("length"), desk.tell, line)
        for line in ("price f 2 0", "price f 0 2", "price f a -", "price f 0 0,1", "price f 0 --", "price f 0\t0 0"):
            self.raises(NoText(), desk.tell, line)

    def test_sweep(self):
        desk = told()
        desk.tell("middle m 1")
        self.equal(desk.tell("sweep m 10110"), "01110")
        self.equal(desk.tell("sweep m -"), "-")
        self.equal(desk.tell("sweep same 0110"), "0110")
        self.raises(NoText(), desk.tell, "sweep m 012")

    def test_read(self):
        desk = told()
        self.equal(desk.tell("read c 111011001"), "text a")
        self.equal(desk.tell("read c 111001"), "text ")
        self.equal(desk.tell("read c 111011101001111"), "text ab")
        self.equal(desk.tell("read c 111011"), "none")
        self.equal(desk.tell("read c -"), "none")
        self.raises(BadRow("length"), desk.tell, "read c 1110")
        self.raises(NoText(), desk.tell, "read c 11100x")

    def test_lets(self):
        desk = told()
        self.equal(desk.tell("lets even aab"), "yes")
        self.equal(desk.tell("lets even a"), "no")
        self.equal(desk.tell("lets even "), "yes")
        desk.tell("rule none ab good - 0,0")
        self.equal(desk.tell("lets none "), "no")
        self.raises(BadText(1), desk.tell, "lets even ac")
        self.raises(NoLine(), desk.tell, "lets even")

    def test_slips(self):
        desk = told()
        self.equal(desk.tell("slips even"), "one")
        desk.tell("rule all ab good 0 0,0")
        self.equal(desk.tell("slips all"), "none")
        desk.tell("rule none ab good - 0,0")
        self.equal(desk.tell("slips none"), "one swap jump twin lost more")
        desk.tell("sums r 012 0,1,2 1,2 3 0")
        self.equal(desk.tell("slips r"), " ".join(seen_kinds(sums(("0", "1", "2"), (0, 1, 2), (1, 2), 3))))

    def test_margin(self):
        desk = told()
        self.equal(desk.tell("margin c"), "1 1 1")
        desk.tell("wear still 0>0:0:0,1>1:0:0")
        desk.tell("chain d b even still same s")
        self.equal(desk.tell("margin d"), "never never never")
        desk.tell("rule two ab good 0 1,1 1,1")
        desk.tell("flips w 7 12345678901234567890")
        desk.tell("chain d b two w same s")
        self.equal(desk.tell("margin d"), "7 never never")

    def test_case(self):
        desk = told()
        for kind in ("none", "wrong", "unlike"):
            price, text, row = desk.tell(f"case c {kind}").split(" ")
            self.equal(price, "1")
            text = "" if text == "-" else text
            worn = tuple(int(cell) for cell in row)
            self.equal(price_of(flips(1, 1), label(book(), text), worn), 1)
            if kind != "unlike":
                self.equal(outcome(chain(), text, worn), kind)
            else:
                self.assertNotIn(text_read(chain(), worn), (None, text))
        # For "none" one changed cell of the empty text's label is enough, and no text has fewer signs.
        self.equal(desk.tell("case c none").split(" ")[1], "-")
        desk.tell("wear still 0>0:0:0,1>1:0:0")
        desk.tell("chain d b even still same s")
        self.equal(desk.tell("case d wrong"), "never")
        for kind in ("right", "None", "x", "-", "0", "none\n", "a_b", "wrong,", "\u00e9"):
            self.raises(BadKind(), desk.tell, "case c " + kind)

    def test_cases_of_chains_of_chance(self):
        for made in some_chains(30, 282):
            desk = Desk()
            desk.tell("book b " + show_book(made.book))
            desk.tell("rule r " + show_rule(made.rule))
            desk.tell("wear w " + show_wear(made.wear))
            desk.tell("window v " + show_window(made.window))
            desk.tell("near n b 1")
            desk.tell("chain c b r w v n")
            one = Chain(made.book, made.rule, made.wear, made.window, near(made.book, 1))
            self.assertTrue(desk.thing("c") == one)
            self.equal(desk.tell("margin c"),
                       " ".join("never" if price is None else str(price) for price in margin(one)))
            for kind in ("none", "wrong", "unlike"):
                least, answer = least_price(one, kind), desk.tell("case c " + kind)
                self.equal(answer == "never", least is None)
                if least is not None:
                    price, text, row = answer.split(" ")
                    worn = tuple(int(cell) for cell in row)
                    self.equal(price, str(least))
                    self.equal(price_of(one.wear, label(one.book, "" if text == "-" else text), worn), least)
            for text in ("", made.book.signs[0], made.book.signs[-1] * 2):
                for worn in list(prices_of_rows(made.wear, label(made.book, text)))[:3]:
                    found, read = mended(one, worn), seen(one, worn)
                    self.equal(desk.tell("mend c " + show_row(worn)), "none" if found is None else " ".join(
                        [str(found[0])] + [mended_text or "-" for mended_text in found[1]]))
                    self.equal(desk.tell("read c " + show_row(worn)), "none" if read is None else "text " + read)
                    self.equal(desk.tell("sweep v " + show_row(worn)), show_row(swept(made.window, worn)))

    def test_mend(self):
        desk = told()
        desk.tell("rule all ab good 0 0,0")
        desk.tell("chain d b all w same s")
        self.equal(desk.tell("mend c 111001"), "0 -")
        self.equal(desk.tell("mend d 111111001"), "1 a b")
        self.equal(desk.tell("mend d 111111111001"), "2 aa ab ba bb")
        self.equal(desk.tell("mend c 111011001"), "2 b")
        desk.tell("wear still 0>0:0:0,1>1:0:0")
        desk.tell("chain d b all still same s")
        self.equal(desk.tell("mend d 111111001"), "none")
        for row in ("-", "1", "111", "1110", "1110010"):
            self.raises(BadRow("worn"), desk.tell, "mend c " + row)
        self.raises(NoText(), desk.tell, "mend c 11100a")

    def test_mend_of_too_many(self):
        desk = Desk()
        for many, wanted in ((3, "0 00000 00001 00002"), (501, None)):
            made = branching(many)
            desk.tell("book b " + show_book(made.book))
            desk.tell("rule r " + show_rule(made.rule))
            for line in ("flips w 0 0", "middle v 0", "strict s b", "chain c b r w v s"):
                desk.tell(line)
            if wanted is None:
                self.raises(TooMany(500), desk.tell, "mend c " + "01" * 21)
            else:
                self.equal(desk.tell("mend c " + "01" * 21), wanted)

    def test_too_wide(self):
        made = sized(6, 3, 6, 40)
        desk = Desk()
        for line in ("book b " + show_book(made.book), "rule r " + show_rule(made.rule),
                     "wear w " + show_wear(made.wear), "middle v 3", "strict s b", "chain c b r w v s"):
            desk.tell(line)
        self.raises(TooWide(), desk.tell, "margin c")
        self.raises(TooWide(), desk.tell, "case c none")
        self.raises(BadKind(), desk.tell, "case c right")
        self.equal(desk.tell("read c 111111000001"), "none")

    def test_questions_change_nothing(self):
        desk = told()
        before = all_of(desk)
        for first, line in FORMS.items():
            if first not in KEEPS and first != "undo":
                answer = desk.tell(line)
                self.equal(desk.tell(line=line), answer)
                self.equal(all_of(desk)[0::2], before[0::2])
                self.assertTrue(all(one is other for one, other in zip(all_of(desk)[1], before[1])))


class TestUndo(Case):

    def test_each_line_that_keeps_something(self):
        for first in KEEPS:
            desk = told()
            before = all_of(desk)
            self.equal(desk.tell(FORMS[first]), "ok")
            self.equal(desk.many(), len(LINES) + 1)
            self.equal(desk.tell("names"), "b c even s same w x")
            self.equal(desk.tell("undo"), "ok")
            self.raises(NoName("x"), desk.thing, "x")
            self.assertEqual(all_of(desk), before)

    def test_a_thing_that_took_the_place_of_another_one(self):
        desk = told()
        kept = desk.thing("w")
        for line in ("flips w 2 2", "middle w 1", "book w start 11 stop 01 z 10"):
            desk.tell(line)
        self.raises(NoName("w"), desk.tell, "price w 0 1")
        desk.tell("undo")
        self.assertTrue(desk.thing("w") == middle(1))
        desk.tell("undo")
        self.equal(desk.tell("price w 0 1"), "2")
        desk.tell("undo")
        self.assertIs(desk.thing("w"), kept)
        self.equal(desk.tell("price w 0 1"), "1")

    def test_down_to_nothing(self):
        desk = told()
        for many in reversed(range(len(LINES))):
            self.equal(desk.tell("undo"), "ok")
            self.equal(desk.many(), many)
        self.equal(desk.tell("names"), "none")
        for _ in range(3):
            self.raises(NoUndo(), desk.tell, "undo")
            self.equal(desk.many(), 0)
        self.raises(NoUndo(), Desk().tell, "undo")

    def test_an_undone_line_is_not_taken_back_again(self):
        desk = told(["flips a 1 1", "flips b 2 2", "flips c 3 3"])
        desk.tell("undo")
        desk.tell("flips d 4 4")
        self.equal(desk.tell("names"), "a b d")
        for names in ("a b", "a", "none"):
            desk.tell("undo")
            self.equal(desk.tell("names"), names)
        self.raises(NoUndo(), desk.tell, "undo")

    def test_lines_that_ask_or_were_refused_are_not_taken_back(self):
        desk = told()
        for line in ("names", "margin c", "label b ab", "slips even"):
            desk.tell(line)
        for line in ("flips w 1", "strict t nobook", "book b x", "near s b 7", "middle same 4", "label b c", "nothing"):
            self.assertRaises(LabelError, desk.tell, line)
        self.equal(desk.many(), len(LINES))
        desk.tell("undo")
        self.raises(NoName("c"), desk.thing, "c")
        self.equal(desk.many(), len(LINES) - 1)

    def test_a_line_that_keeps_the_same_again(self):
        desk = told(["flips a 1 1"] * 3)
        self.equal(desk.many(), 3)
        desk.tell("undo")
        desk.tell("undo")
        self.assertTrue(desk.thing("a") == flips(1, 1))
        desk.tell("undo")
        self.equal(desk.tell("names"), "none")


def worse_lines():
    """Return lines that have none of the forms."""
    made = [" ", "", "x", "-", "Names", "names ", " names", "names names", "undo ", "undo 1", "undo undo", " undo",
            "undo\n", "book", "book b", "rule r", "wear w", "window v", "\n", "tell", "thing b", "many", "none",
            "middle", "b",
            "start 111 stop 001 a 011", "ab good 0 1,0 0,1"]
    for first, line in FORMS.items():
        words = line.split(" ")
        made += [first.upper() + line[len(first):], first + "x" + line[len(first):], " " + line, "x " + line,
                 line.replace(" ", "\t"), "\ufeff" + line]
        if first not in ("undo", "names"):
            made += [first, first + " ", line.replace(" ", "  ", 1), first + "\n" + line[len(first):]]
        if first in ("book", "rule", "wear", "window"):
            made += [" ".join(words[:2]), first + "  " + words[2], first + " b"]
        elif first not in ("undo", "names"):
            made += [line + " ", line + " x", line + " 1", " ".join(words[:-1]), line.replace(" ", "  "), line + "  "]
            made += [" ".join(words[:at] + [""] + words[at:]) for at in range(1, len(words) + 1)]
            made += [" ".join(words[:at] + ["b"] + words[at:]) for at in range(1, len(words) + 1)]
    # Some of what was put together so has a form.
    return [line for line in made if line not in FORMS.values() and line not in ("label b b", "lets b b")]


class TestNoLine(Case):

    def refused(self, line):
        """Check that a line has no form, whether the names in it stand for something or not."""
        for desk in (self.desk, self.empty):
            before = all_of(desk)
            self.raises(NoLine(), desk.tell, line)
            self.assertEqual(all_of(desk)[0::2], before[0::2])

    def setUp(self):
        self.desk = told()
        self.empty = Desk()

    def test_no_strings(self):
        for thing in things() + [b"names", ["names"], ("names",), None, 0]:
            if type(thing) is not str:
                self.refused(thing)

    def test_no_forms(self):
        for line in worse_lines():
            self.refused(line)

    def test_names_that_are_none(self):
        wrong = ("A", "B", "abcdefghi", "a1", "0", "-", "a-b", "a_b", "\u00e9", "\u00df", "a\n", "\na", "a\t", "a,b",
                 "aB", "")
        for first, line in FORMS.items():
            words = line.split(" ")
            for place, word in enumerate(words):
                if place > 0 and word in ("x", "b", "even", "w", "same", "s", "c"):
                    for name in wrong:
                        self.refused(" ".join(words[:place] + [name] + words[place + 1:]))

    def test_numbers_that_are_none(self):
        wrong = ("01", "00", "-1", "+1", "1.0", "1_0", "1e3", "a", "1" + "0" * 40, "9" * 5000, "\u0661", "\u00b2", "",
                 "1\n", "0x1", "-", "1,1", "-0")
        for line in ("flips x {} 1", "flips x 1 {}", "strokes x {} 1", "strokes x 1 {}", "middle x {}", "near x b {}",
                     "sums x ab 1,2 1 {} 0", "sums x ab 1,2 1 7 {}"):
            for number in wrong:
                self.refused(line.format(number))
        for line in ("sums x ab {},2 1 7 0", "sums x ab 1,{} 1 7 0", "sums x ab 1,2 {} 7 0", "sums x ab 1,2 1,{} 7 0",
                     "sums x ab 1,2 {},1 7 0"):
            for number in wrong:
                if number != "1,1":
                    self.refused(line.format(number))
        for line in ("sums x ab 1,2, 1 7 0", "sums x ab ,1,2 1 7 0", "sums x ab 1;2 1 7 0", "sums x ab 1,,2 1 7 0",
                     "sums x ab 1, 2 1 7 0", "sums x ab - 1 7 0"):
            self.refused(line)
        # As many digits as may be.
        for line in ("middle x " + "9" * 40, "near x b " + "9" * 40):
            self.assertRaises((BadNumber, NoName), self.desk.tell, line)
            self.assertRaises((BadNumber, NoName), self.empty.tell, line)

    def test_ahead_of_names_and_texts(self):
        for line in ("near x nobook 01", "near x b 01", "chain x no no no no No", "price no 2 ", "price no 2",
                     "case no", "case no none x", "label no a b", "book B nothing", "sums x ba 1 1 1 01", "strict X no",
                     "mend no 2 2", "margin no ", "slips No"):
            self.refused(line)


class TestErrors(Case):

    def changes_nothing(self, desk, wanted, line):
        """Check that a line raises an error and changes nothing."""
        before = all_of(desk)
        self.raises(wanted, desk.tell, line)
        self.assertEqual(all_of(desk), before)

    def test_the_first_name_that_stands_for_no_such_thing(self):
        desk = told()
        right = {"b": "book", "even": "rule", "w": "wear", "same": "window", "s": "reader", "c": "chain"}
        for first, line in FORMS.items():
            words = line.split(" ")
            places = [place for place, word in enumerate(words) if place > 0 and word in right]
            for place in places:
                for name in [name for name in right if name != words[place]] + ["no", "zzzzzzzz"]:
                    spoiled = words[:place] + [name] + words[place + 1:]
                    self.changes_nothing(desk, NoName(name), " ".join(spoiled))
                    for later in [later for later in places if later > place]:
                        spoiled[later] = "later"
                    self.changes_nothing(desk, NoName(name), " ".join(spoiled))

    def test_names_ahead_of_texts_and_of_what_the_functions_raise(self):
        desk = told()
        for line in ("price no 2 3", "price no 0 00", "sweep no 2", "read no 2", "mend no 2", "near x no 7",
                     "case no x", "label no ?", "lets no ?"):
            self.changes_nothing(desk, NoName("no"), line)

    def test_rows_ahead_of_what_the_functions_raise(self):
        desk = told()
        for line in ("price w 2 00", "price w 00 2", "read c 2", "mend c 2", "sweep same 2"):
            self.changes_nothing(desk, NoText(), line)

    def test_texts_that_are_none(self):
        desk = told()
        for first in ("book", "rule", "wear", "window"):
            text = FORMS[first].split(" ", 2)[2]
            for rest in ("", " ", "x", "-", " " + text, text + " ", text + "\n", text + "  " + text, text + ","):
                self.changes_nothing(desk, NoText(), f"{first} x {rest}")
                self.changes_nothing(desk, NoText(), f"{first} b {rest}")

    def test_what_the_makers_raise(self):
        desk = told()
        for line, wanted in (("sums x ba 1,2 1 7 0", BadRule("signs")), ("sums x aa 1,2 1 7 0", BadRule("signs")),
                             ("sums x A 1 1 7 0", BadRule("signs")), ("sums x - 1 1 7 0", BadRule("signs")),
                             ("sums x a,b 1,2 1 7 0", BadRule("signs")),
                             ("sums x abcdefghijk 1 1 7 0", BadRule("signs")),
                             ("sums x ab 1 1 7 0", BadSums("values")), ("sums x ab 1,2,3 1 7 0", BadSums("values")),
                             ("sums x ab 1,2 1,1,1,1,1 7 0", BadSums("weights")),
                             ("sums x ab 1,2 1 1 0", BadSums("modulus")),
                             ("sums x ab 1,2 1 10 0", BadSums("modulus")), ("sums x ab 1,2 1 7 7", BadSums("rest")),
                             ("strokes x 1 0", BadNumber("length")), ("strokes x 1 6", BadNumber("length")),
                             ("middle x 4", BadNumber("radius")), ("near x b 7", BadNumber("most"))):
            self.changes_nothing(desk, wanted, line)

    def test_chains_that_do_not_fit(self):
        desk = told()
        for line in ("rule other a good 0 0", "book two start 11 stop 01 a 10", "strict t two", "middle far 3",
                     "rule fit a good 0 0"):
            desk.tell(line)
        self.changes_nothing(desk, BadChain("signs"), "chain x b other w same s")
        self.changes_nothing(desk, BadChain("width"), "chain x b even w same t")
        self.changes_nothing(desk, BadChain("radius"), "chain x two fit w far t")
        self.changes_nothing(desk, BadChain("signs"), "chain c two even w far s")

    def test_refused_lines_leave_the_thing_in_its_place(self):
        desk = told()
        for line in ("near s b 7", "middle same 9", "strokes w 1 9", "book b -", "chain c b even w same nothing"):
            self.assertRaises(LabelError, desk.tell, line)
        self.assertTrue(desk.thing("c") == chain())
        self.equal(all_of(desk)[0], "b c even s same w")


class TestThing(Case):

    def test_things(self):
        desk = told()
        wanted = {"b": Book, "even": Rule, "w": Wear, "same": Window, "s": Reader, "c": Chain}
        for name, kind in wanted.items():
            self.assertIs(type(desk.thing(name)), kind)
            self.assertIs(desk.thing(name=name), desk.thing(name))

    def test_no_names(self):
        desk = told()
        for thing in things() + ["B", "b ", "no", "", ("b",), ["b"], b"b", {"b": 1}, "abcdefghi", 7]:
            if not (type(thing) is str and thing == "b"):
                self.raises(NoName(thing), desk.thing, thing)
                self.raises(NoName(thing), Desk().thing, thing)


class TestTrial(Case):

    def test_answers(self):
        desk = told()
        before = all_of(desk)
        self.equal(desk.trial(["flips w 5 5", "price w 0 1", "undo", "price w 0 1", "names", "undo", "names"]),
                   ["ok", "5", "ok", "1", "b c even s same w", "ok", "b even s same w"])
        self.assertEqual(all_of(desk), before)
        self.equal(desk.trial([]), [])
        self.equal(desk.trial(lines=["names"]), ["b c even s same w"])
        self.assertEqual(all_of(desk), before)
        self.equal(desk.tell("price w 0 1"), "1")

    def test_a_line_that_raises(self):
        for lines, wanted in ((["flips x 1 1", "undo", "undo", "undo", "nothing"], NoLine()),
                              (["flips x 1 1", "price no 0 1", "flips y 1 1"], NoName("no")),
                              ([""], NoLine()), (["flips b 1 1", "label b a"], NoName("b")),
                              (["undo"] * 7, NoUndo()), (["book b x"], NoText()), (["flips w 1 1", None], NoLine()),
                              (["flips w 1 1", "label b c", "undo"], BadText(0))):
            desk = told()
            before = all_of(desk)
            self.raises(wanted, desk.trial, lines)
            self.assertEqual(all_of(desk), before)
            self.assertEqual(history_of(desk), history_of(told()))

    def test_all_can_be_taken_back_as_before(self):
        desk = told()
        desk.trial(["undo", "undo", "flips b 1 1", "middle c 1", "undo"])
        self.assertEqual(history_of(desk), history_of(told()))

    def test_on_an_empty_desk(self):
        desk = Desk()
        self.equal(desk.trial(LINES + ["margin c"]), ["ok"] * 6 + ["1 1 1"])
        self.equal(desk.tell("names"), "none")
        self.raises(NoUndo(), desk.tell, "undo")

    def test_each_list_is_new(self):
        desk = told()
        lines = ["names"]
        found = desk.trial(lines)
        found.append("x")
        self.equal(desk.trial(lines), ["b c even s same w"])
        self.equal(lines, ["names"])


class TestTellAll(Case):

    def test_answers(self):
        desk = Desk()
        self.equal(tell_all(desk, LINES + ["margin c", "undo"]), ["ok"] * 6 + ["1 1 1", "ok"])
        self.equal(desk.tell("names"), "b even s same w")
        self.equal(desk.many(), 5)
        self.equal(tell_all(lines=[], desk=desk), [])
        self.equal(tell_all(lines=["names"], desk=desk), ["b even s same w"])
        self.equal(desk.many(), 5)

    def test_is_as_telling_one_by_one(self):
        desk = Desk()
        tell_all(desk, LINES)
        self.assertEqual(history_of(desk), history_of(told()))

    def test_a_line_that_raises(self):
        for place in range(len(LINES) + 1):
            for line, wanted in (("nothing", NoLine()), ("margin no", NoName("no")), ("book x -", NoText()),
                                 ("strokes x 1 9", BadNumber("length")), (None, NoLine())):
                desk = told(["flips first 1 1", "flips even 3 3"])
                before = all_of(desk)
                self.raises(wanted, tell_all, desk, LINES[:place] + [line] + LINES[place:])
                self.assertEqual(all_of(desk), before)
                self.assertEqual(history_of(desk), history_of(told(["flips first 1 1", "flips even 3 3"])))

    def test_lines_that_take_back_what_was_there(self):
        desk = told()
        before = all_of(desk)
        self.raises(NoUndo(), tell_all, desk, ["undo"] * 7)
        self.assertEqual(all_of(desk), before)
        self.equal(tell_all(desk, ["undo"] * 6), ["ok"] * 6)
        self.equal(desk.tell("names"), "none")

    def test_what_was_passed_stays_as_it_is(self):
        lines = list(LINES)
        tell_all(Desk(), lines)
        self.equal(lines, LINES)
        self.raises(NoLine(), tell_all, Desk(), lines + [""])
        self.equal(lines, LINES)


class TestDesks(Case):

    def test_two_desks_at_a_time(self):
        one, other = Desk(), Desk()
        one.tell("flips a 1 1")
        self.equal(other.tell("names"), "none")
        self.raises(NoUndo(), other.tell, "undo")
        other.tell("middle a 1")
        self.equal([one.many(), other.many()], [1, 1])
        one.tell("undo")
        self.assertTrue(other.thing("a") == middle(1))
        tell_all(one, LINES)
        self.raises(NoLine(), tell_all, other, LINES + ["x"])
        self.equal([one.tell("names"), other.tell("names")], ["b c even s same w", "a"])

    def test_any_row_of_lines(self):
        chance = random.Random(283)
        for _ in range(40):
            desk = Desk()
            # All that was kept so far, one dict for each line that can be taken back.
            past = [{}]
            for _ in range(40):
                name = chance.choice("abc")
                line = chance.choice((f"flips {name} {chance.randint(0, 9)} 1", f"middle {name} {chance.randint(0, 4)}",
                                      "undo", f"strokes {name} 1 {chance.randint(0, 3)}", f"price {name} 0 1", "names"))
                call = chance.choice((desk.tell, desk.tell, lambda text: desk.trial(["flips a 1 1", text]),
                                      lambda text: tell_all(desk, [text, "names"])))
                many = desk.many()
                try:
                    call(line)
                except LabelError:
                    pass
                if desk.many() > many:
                    past.append({**past[-1], name: desk.thing(name)})
                elif desk.many() < many:
                    past.pop()
                self.equal(desk.many(), len(past) - 1)
                self.equal(desk.tell("names"), " ".join(sorted(past[-1])) or "none")
                for kept, thing in past[-1].items():
                    self.assertIs(desk.thing(kept), thing)

"""Tests of surelabels.texts: points 15.1 and 15.2."""

import random

from surelabels.books import Book
from surelabels.errors import BadRow, NoText
from surelabels.rules import Rule, all_texts, lengths, sums
from surelabels.texts import (read_book, read_row, read_rule, read_wear, read_window, show_book, show_row, show_rule,
                              show_wear, show_window)
from surelabels.wears import Wear, flips, rare, strokes
from surelabels.windows import Window, darkest, middle, same
from tests.helpers import Case, rows, things
from tests.test_books import book
from tests.test_cells import not_rows
from tests.test_chains import EVEN
from tests.told import STAY, some_chains

READERS = (read_row, read_book, read_rule, read_wear, read_window)
SHOWN = {read_row: show_row, read_book: show_book, read_rule: show_rule, read_wear: show_wear, read_window: show_window}

# For each reading some texts that 15.1 writes.
WRITTEN = {
    read_row: ["-", "0", "1", "0110", "1" * 400],
    read_book: ["start 111 stop 001 a 011 b 101", "start 00 stop 01 z 10", "start 00 stop 01 0 10 a 11"],
    read_rule: ["ab good 0 1,0 0,1", "a good - 0", "0z good 0,2 0,1 2,1 1,0", "abc good 1 1,1,1 0,1,0"],
    read_wear: ["0>0:0:0,0>1:1:0,1>1:0:0,1>0:1:0", "1>1:0:0,0>0:0:0",
                "0>0:0:1,1>1:0:0,0>1:" + "9" * 40 + ":1 0>0:0:0,1>1:0:1"],
    read_window: ["0 01", "0 11", "1 00010111", "2 " + "01" * 16],
}


def spoiled(text):
    """Return texts that differ from one in a few ways, each of which spoils the form of all of them."""
    made = [text + end for end in " \n\t\r,-;xA_\x00\u0661\u00a0\ud800"] + [end + text for end in " \n\t,x-_\ufeff"]
    if " " in text:
        made += [text.replace(" ", between) for between in ("  ", "\t", "\n", "_", "\u00a0", " ,", "")]
        made += [text.replace(" ", "  ", 1), "  ".join(text.rsplit(" ", 1))]
    return made + ["", " ", text + " x", text.replace("0", "\u0660") + "\u0660", text.upper() + "A"]


class TestShow(Case):

    def test_rows(self):
        self.equal(show_row((0, 1, 1, 0)), "0110")
        self.equal(show_row(()), "-")
        self.equal(show_row(row=(1,)), "1")
        self.equal(show_row((1, 0) * 200), "10" * 200)
        for thing in not_rows():
            self.raises(BadRow("row"), show_row, thing)

    def test_books(self):
        self.equal(show_book(book()), "start 111 stop 001 a 011 b 101")
        self.equal(show_book(book=Book({"z": (0, 0), "0": (1, 1)}, (0, 1), (1, 0))), "start 01 stop 10 0 11 z 00")
        ten = Book(dict(zip("9876543210", rows(4))), (1, 1, 1, 1), (1, 1, 1, 0))
        self.equal(show_book(ten), "start 1111 stop 1110 0 1001 1 1000 2 0111 3 0110 4 0101 5 0100 6 0011 7 0010 8 0001"
                                   " 9 0000")

    def test_rules(self):
        self.equal(show_rule(EVEN), "ab good 0 1,0 0,1")
        self.equal(show_rule(rule=Rule(("a",), ((0,),), ())), "a good - 0")
        self.equal(show_rule(all_texts(("0", "9", "x"))), "09x good 0 0,0,0")
        self.equal(show_rule(lengths(("a",), 0, 1)), "a good 0,1 1 2 2")
        self.equal(show_rule(sums(("a", "b"), (0, 1), (1,), 3, 2)), "ab good 2 0,1 1,2 2,0")
        many = Rule(("a", "b"), [[39, k] for k in range(40)], tuple(range(10, 40)))
        self.equal(show_rule(many), "ab good " + ",".join(str(k) for k in range(10, 40)) + " "
                   + " ".join(f"39,{k}" for k in range(40)))

    def test_wears(self):
        self.equal(show_wear(flips(1, 2)), "0>0:0:0,0>1:1:0,1>1:0:0,1>0:2:0")
        self.equal(show_wear(wear=Wear((STAY, ((1, 1, 0, 1), (0, 0, 0, 0))))), "0>0:0:0,1>1:0:0 1>1:0:1,0>0:0:0")
        self.equal(show_wear(flips(10 ** 39, 0)), "0>0:0:0,0>1:1" + "0" * 39 + ":0,1>1:0:0,1>0:0:0")
        self.equal(show_wear(rare(1, 2, 1)), "0>0:0:0,0>1:1:1,1>1:0:0,1>0:2:1 0>0:0:0,1>1:0:0")

    def test_windows(self):
        self.equal(show_window(same()), "0 01")
        self.equal(show_window(middle(1)), "1 00010111")
        self.equal(show_window(window=darkest(1)), "1 01111111")
        self.equal(show_window(Window(3, [0, 1] * 64)), "3 " + "01" * 64)


class TestRead(Case):

    def test_written_texts(self):
        for read, texts in WRITTEN.items():
            for text in texts:
                self.equal(SHOWN[read](read(text)), text)
                self.equal(SHOWN[read](read(text=text)), text)

    def test_by_hand(self):
        self.equal(read_row("0110"), (0, 1, 1, 0))
        self.equal(read_row("-"), ())
        self.assertTrue(read_book("start 111 stop 001 a 011 b 101") == book())
        self.assertTrue(read_rule("ab good 0 1,0 0,1") == EVEN)
        self.assertTrue(read_rule("a good - 0") == Rule(("a",), ((0,),), ()))
        self.assertTrue(read_wear("0>0:0:0,0>1:1:0,1>1:0:0,1>0:2:0") == flips(1, 2))
        self.assertTrue(read_window("1 00010111") == middle(1))

    def test_the_way_back(self):
        for made in some_chains(150, 271):
            for show, read, thing in ((show_book, read_book, made.book), (show_rule, read_rule, made.rule),
                                      (show_wear, read_wear, made.wear), (show_window, read_window, made.window)):
                self.assertTrue(read(show(thing)) == thing)
                self.assertIs(type(read(show(thing))), type(thing))
        for length in range(7):
            for row in rows(length):
                self.equal(read_row(show_row(row)), row)
        for wear in (strokes(3, 5), rare(10 ** 39, 1, 5), Wear([[(0, 0, 0, k), (1, 1, 0, k)] for k in range(6)])):
            self.assertTrue(read_wear(show_wear(wear)) == wear)
        for rule in (lengths(("a", "b"), 30, 30), sums(tuple("0123456789"), range_of(10), (1, 3, 7, 9), 9, 8),
                     Rule(("a",), [[39]] * 40, ())):
            self.assertTrue(read_rule(show_rule(rule)) == rule)

    def test_prices_of_40_and_41_digits(self):
        text = "0>0:0:0,1>1:0:0,0>1:{}:0"
        self.equal(read_wear(text.format("9" * 40)).moves[0][2][2], 10 ** 40 - 1)
        self.raises(NoText(), read_wear, text.format("1" + "0" * 40))
        self.raises(NoText(), read_wear, text.format("1" * 5000))
        self.raises(NoText(), read_wear, show_wear(flips(10 ** 40, 1)))

    def test_no_strings(self):
        for read in READERS:
            for thing in things():
                if type(thing) is not str:
                    self.raises(NoText(), read, thing)
        for read, texts in WRITTEN.items():
            for text in texts:
                for thing in (text.encode(), [text], (text,), {text: text}, list(text), bytearray(text.encode())):
                    self.raises(NoText(), read, thing)

    def test_strings_that_are_none(self):
        for read, texts in WRITTEN.items():
            for text in texts:
                for other in spoiled(text):
                    self.raises(NoText(), read, other)

    def test_texts_of_another_kind(self):
        for read in READERS:
            for other, texts in WRITTEN.items():
                for text in texts:
                    if other is not read:
                        self.raises(NoText(), read, text)

    def test_what_is_read_is_what_is_written(self):
        # Whatever is read of a text in which one character is another one, is left out or put in, is written so.
        chance = random.Random(272)
        taken = 0
        for read, texts in WRITTEN.items():
            for text in texts:
                for _ in range(400):
                    place = chance.randrange(len(text) + 1)
                    put = chance.choice(("", *"01 ,:>-ab29+\ngsx"))
                    other = text[:place] + put + text[place + chance.randint(0, 1):]
                    try:
                        found = read(other)
                    except NoText:
                        continue
                    self.equal(SHOWN[read](found), other)
                    taken += other != text
        self.assertGreater(taken, 200)


def range_of(many):
    """Return the tuple of the first numbers."""
    return tuple(range(many))


class TestNoText(Case):

    def test_rows(self):
        for text in ("", "2", "012", "0 1", "--", "-0", "0-", "0,1", "01\n", "O", "\u0661", "\u00b9", "0b1", "+1", "_",
                     "1_0"):
            self.raises(NoText(), read_row, text)

    def test_books(self):
        for text in ("start 111 stop 001", "start 111 stop 001 ", "start 111 stop 001 a", "start 111 stop 001 a 011 b",
                     "start 111 stop 001 b 101 a 011", "start 111 stop 001 a 011 a 011",
                     "start 111 stop 001 a 011 a 101",
                     "start 111 stop 001 ab 011", "start 111 stop 001 A 011", "start 111 stop 001 start 011",
                     "start 111 stop 001 a 0110", "start 11 stop 001 a 011", "start 111 stop 111 a 011",
                     "start 111 stop 001 a 111", "start 111 stop 001 a 011 b 011", "start - stop - a -",
                     "start 111 stop 001 a -", "stop 001 start 111 a 011", "111 001 a 011", "start 111 stop 001  a 011",
                     "start 111  stop 001 a 011", "start 111 stop 001 a 011 ", " start 111 stop 001 a 011",
                     "start 1111111 stop 0000000 a 0101010", "start 1 stop 0 a 1", "start 111 stop 001 a 021",
                     "start 111 stop 001 a 011\n", "Start 111 stop 001 a 011", "start 111 stop 001 a 011 b 101 c",
                     "start", "stop", "start 111", "start 111 stop", "begin 111 stop 001 a 011",
                     "start 111 end 001 a 011",
                     "start 1111 stop 1110 " + " ".join(f"{sign} {row:04b}" for row, sign in enumerate("0123456789a"))):
            self.raises(NoText(), read_book, text)

    def test_rules(self):
        for text in ("ab good 0", "ab good 0 ", "ab good", "ab", "ab good 0 1,0 0,2", "ab good 2 1,0 0,1",
                     "ab good 0 1 0,1",
                     "ab good 0 1,0,0 0,1,0", "ba good 0 1,0 0,1", "aa good 0 1,0 0,1", "aB good 0 1,0 0,1",
                     "ab good 1,0 1,0 0,1", "ab good 0,0 1,0 0,1", "ab good 0,1, 1,0 0,1", "ab good  1,0 0,1",
                     "ab good -1 1,0 0,1", "ab good 00 1,0 0,1", "ab good 0 01,0 0,1", "ab good 0 +1,0 0,1",
                     "ab good 0 -,0 0,1", "ab good 0 - 0,1", "ab Good 0 1,0 0,1", "ab bad 0 1,0 0,1", "ab 0 1,0 0,1",
                     " good 0 0", "- good 0 0", "a good 0 0  0", "a good 0  0", "a good 0,- 0", "a good -,0 0",
                     "ab good 0 1,0 0,1\n", "ab good 0 1;0 0;1", "ab good 0 1.0 0.1",
                     "abcdefghijk good 0 " + ",".join("0" * 11),
                     "a good 0 " + " ".join(["0"] * 41), "a good 0 " + "0" * 41, "a good - " + "1" * 5000):
            self.raises(NoText(), read_rule, text)
        self.equal(len(read_rule("a good 0 " + " ".join(["0"] * 40)).moves), 40)

    def test_wears(self):
        stay = "0>0:0:0,1>1:0:0"
        for text in ("", "0>0:0:0", "1>1:0:0", "0>0:1:0,1>1:0:0", stay + ",", stay + ",,0>1:1:0", stay + " ",
                     " " + stay,
                     stay + "  " + stay, stay + ",2>0:1:0", stay + ",0>2:1:0", stay + ",0>1:1:1", stay + ",0>1:-1:0",
                     stay + ",0>1:01:0", stay + ",0>1:+1:0", stay + ",0>1:1", stay + ",0>1:1:0:0", stay + ",0:1:1:0",
                     stay + ",0>1>1>0", stay + ",0>1:1>0", stay + ",0>:1:0", stay + ",>1:1:0", stay + ",0>1::0",
                     stay + ",0>1:1:", stay + ",00>1:1:0", stay + ",0>1: 1:0", stay + ";0>1:1:0", stay + "\n",
                     stay + " " + "0>0:0:0", stay.replace(",", " "), "-", " ".join([stay] * 7), stay + ",0>1:\u0661:0",
                     stay + ",0>1:1_0:0", stay + ",0>1:1.0:0", stay + ",0 1:1:0", stay + ",0->1:1:0"):
            self.raises(NoText(), read_wear, text)
        self.equal(len(read_wear(" ".join([stay] * 6)).moves), 6)

    def test_windows(self):
        for text in ("", "0", "01", "0 ", " 01", "0 0", "0 011", "0 02", "1 01", "0 0001", "00 01", "+0 01", "-0 01",
                     "4 01",
                     "4 " + "01" * 256, "0  01", "0 01 ", "0 01 1", "0 0,1", "0 -", "- 01", "0 01\n", "a 01", "0\t01",
                     "1 0001011", "1 000101110", "10 01", "0 " + "01" * 2000, "1" * 41 + " 01", "1" * 5000 + " 01"):
            self.raises(NoText(), read_window, text)

"""Tests of surelabels.scans: points 14.1 to 14.3."""

import itertools
import random

from surelabels.books import Book, label
from surelabels.chains import Chain, with_rule, with_wear
from surelabels.errors import BadList, BadNumber, NoText, TooMany
from surelabels.mending import prices_of
from surelabels.readers import Reader, near, strict
from surelabels.rules import all_texts, lengths, sums
from surelabels.scans import fitting, least_scans, sure_signs, voted
from surelabels.wears import Wear, flips, price_of, rare, strokes
from surelabels.windows import darkest, same
from tests.helpers import Case, nested, rows, texts, things
from tests.test_books import some_books
from tests.test_cells import not_rows
from tests.test_chains import EVEN, chain
from tests.test_mending import DIGITS, branching, digits_chain, some_scan, wrong_rows
from tests.test_prices import far_chain
from tests.test_readers import some_readers
from tests.test_standings import no_text, trap
from tests.told import STAY, label_of, lets, some_chains

STILL = Wear((STAY,))


def fitting_as_told(made, scans):
    """Return all pairs (price, text) of some scans, by all texts of their length."""
    length = len(scans[0]) // made.book.width - 2
    found = []
    for text in [text for text in texts(made.book.signs, length) if len(text) == length and lets(made.rule, text)]:
        prices = [price_of(made.wear, label_of(made.book, text), scan) for scan in scans]
        if None not in prices:
            found.append((sum(prices), text))
    return sorted(found)


def sure_as_told(pairs):
    """Return what all texts of some pairs have at each place."""
    if not pairs:
        return None
    columns = zip(*(text for _, text in pairs))
    return [column[0] if len(set(column)) == 1 else None for column in columns]


def least_scans_as_told(made, scans, text):
    """Return the first choice of scans that tells a text, by all choices and all texts."""
    for count in range(1, len(scans) + 1):
        for chosen in itertools.combinations(range(len(scans)), count):
            taken = [scans[index] for index in chosen]
            most = sum(price_of(made.wear, label_of(made.book, text), scan) for scan in taken)
            if [one for price, one in fitting_as_told(made, taken) if price <= most] == [text]:
                return chosen
    return None


def some_scans(made, signs, many, chance):
    """Return rows of chance of one length; often all of them were worn from the label of one text."""
    if chance.random() < 0.4:
        return [some_scan(made, signs, chance) for _ in range(many)]
    row = label_of(made.book, "".join(chance.choice(made.book.signs) for _ in range(signs)))
    scans = []
    for _ in range(many):
        place, worn = 0, []
        for cell in row:
            move = chance.choice([move for move in made.wear.moves[place] if move[0] == cell])
            worn.append(move[1])
            place = move[3]
        scans.append(tuple(worn))
    return scans


def lists_of_no_scans(made):
    """Return what is no list or tuple of 1 to 5 items."""
    row = label(made.book, "")
    wrong = [thing for thing in things() if not (isinstance(thing, (list, tuple)) and 1 <= len(thing) <= 5)]
    return wrong + [[], (), [row] * 6, (row,) * 6, {0: row}, {row: row}, "0101", 5]


class TestFitting(Case):

    def test_by_hand(self):
        made = chain(rule=all_texts(("a", "b")))
        first, second = (1, 1, 1, 1, 1, 1, 0, 0, 1), (1, 1, 1, 0, 1, 1, 0, 0, 1)
        self.equal(fitting(made, [first], 9), [(1, "a"), (1, "b")])
        self.equal(fitting(made, (first, second), 9), [(1, "a"), (3, "b")])
        self.equal(fitting(most=2, scans=[first, second], chain=made), [(1, "a")])
        self.equal(fitting(made, [first, second, second], 0), [])
        self.equal(fitting(chain(), [(1, 1, 1, 0, 0, 1)] * 5, 0), [(0, "")])

    def test_against_trying_all_texts(self):
        chance = random.Random(251)
        met = {many: 0 for many in range(1, 6)}
        for made in some_chains(130, 252):
            for signs in range(4 if made.book.width == 2 else 3):
                many = chance.randint(1, 5)
                scans = some_scans(made, signs, many, chance)
                wanted = fitting_as_told(made, scans)
                for most in (0, 2, 5, 10 ** 39):
                    self.equal(fitting(made, chance.choice((list, tuple))(scans), most),
                               [pair for pair in wanted if pair[0] <= most])
                met[many] += len(wanted) > 1
        self.assertGreater(min(met.values()), 3)

    def test_one_scan_is_as_for_prices_of(self):
        chance = random.Random(253)
        for made in some_chains(40, 254):
            worn = some_scan(made, 3, chance) if made.book.width == 2 else some_scan(made, 2, chance)
            self.equal(fitting(made, [worn], 6), prices_of(made, worn, 6))

    def test_makers_of_wears_and_rules(self):
        chance = random.Random(255)
        one = Book({"a": (0, 1, 1), "b": (1, 0, 0), "c": (0, 1, 0)}, (1, 1, 0), (0, 0, 1))
        for wear in (flips(1, 2), strokes(2, 3), rare(1, 1, 2), rare(3, 0, 5),
                     Wear([[(0, 0, 0, (k + 1) % 6), (1, 1, 0, (k + 5) % 6), (1, 0, k, k), (0, 1, 2, 5 - k)]
                           for k in range(6)])):
            for rule in (all_texts(("a", "b", "c")), sums(("a", "b", "c"), (0, 1, 2), (1, 2), 3),
                         trap(("a", "b", "c")), no_text(("a", "b", "c"))):
                made = Chain(one, rule, wear, same(), strict(one))
                for many in (2, 3, 5):
                    scans = some_scans(made, 3, many, chance)
                    wanted = fitting_as_told(made, scans)
                    for most in (3, 6, 20):
                        self.equal(fitting(made, scans, most), [pair for pair in wanted if pair[0] <= most])

    def test_a_text_without_a_price_for_one_scan(self):
        made = chain(wear=strokes(1, 1), rule=all_texts(("a", "b")))
        full, only_a = (1, 1, 1, 1, 1, 1, 0, 0, 1), (1, 1, 1, 0, 1, 1, 0, 0, 1)
        self.equal([text for _, text in fitting(made, [full, full], 99)], ["a", "b"])
        self.equal([text for _, text in fitting(made, [full, only_a], 99)], ["a"])
        self.equal(fitting(made, [only_a, (1, 1, 1, 1, 0, 1, 0, 0, 1)], 10 ** 39), [])
        self.equal(fitting(made, [full, (0, 1, 1, 1, 1, 1, 0, 0, 1)], 10 ** 39), [])

    def test_most_just_at_and_below_a_sum(self):
        made = chain(wear=flips(3, 10 ** 38), rule=all_texts(("a", "b")))
        scans = [(1, 1, 1, 1, 1, 1, 0, 0, 1), (1, 1, 1, 0, 0, 1, 0, 0, 1), (1, 1, 1, 0, 1, 1, 0, 0, 1)]
        wanted = fitting_as_told(made, scans)
        self.equal(wanted, [(3 + 10 ** 38, "a"), (6 + 2 * 10 ** 38, "b")])
        for most in (3 + 10 ** 38, 2 + 10 ** 38, 5 + 2 * 10 ** 38, 6 + 2 * 10 ** 38):
            self.equal(fitting(made, scans, most), [pair for pair in wanted if pair[0] <= most])

    def test_scans_that_do_not_agree(self):
        # Each scan alone has a cheap text, but no text is cheap for both.
        made = with_rule(far_chain(1), EVEN)
        for text, other in (("aaaaaaaa", "bbbbbbbb"), ("aabbaabb", "bbaabbaa")):
            scans = [label(made.book, text), label(made.book, other)]
            self.equal(fitting(made, scans, 47), [])
            found = fitting(made, scans, 48)
            self.equal(len(found), 128)
            self.assertTrue(all(price == 48 for price, _ in found))
            self.equal(fitting(made, scans + [scans[0]], 48), [(48, text)])
            self.equal(fitting(made, scans + [scans[0]], 47), [])
            self.raises(TooMany(500), fitting, with_rule(made, all_texts(("a", "b"))),
                        [row[:6] + row[6:12] * 9 + row[-6:] for row in scans], 54)

    def test_many_beginnings_that_come_to_nothing(self):
        # Each scan alone has a cheap rest behind any beginning, but only one text is as cheap for all three.
        made = far_chain(1)
        one, other = label(made.book, "a" * 16), label(made.book, "b" * 16)
        self.equal(fitting(made, [one, other, one], 96), [(96, "a" * 16)])
        self.equal(len(fitting(made, [one, other, one], 102)), 17)
        self.equal(fitting(made, [one, other, one], 95), [])
        self.equal(sure_signs(made, [one, other, one], 96), ["a"] * 16)
        self.raises(TooMany(500), fitting, made, [one, other], 96)
        self.equal(least_scans(made, [other, one], "a" * 16), (1,))

    def test_500_and_501(self):
        scans = [(0, 1) * 21, (1,) * 42, (0,) * 42]
        for many in (1, 2, 3):
            self.equal(fitting(branching(500), scans[:many], 0), [(0, f"{k:05d}") for k in range(500)])
            self.raises(TooMany(500), fitting, branching(501), scans[:many], 0)
            self.raises(TooMany(500), fitting, branching(40000), scans[:many], 10 ** 39)

    def test_rows_of_400_cells(self):
        chance = random.Random(256)
        text = "".join(chance.choice(DIGITS) for _ in range(65))
        for wear in (flips(1, 2), strokes(3, 5)):
            made = digits_chain(10, wear)
            row = label(made.book, text)
            scans = []
            for _ in range(5):
                worn = list(row)
                for place in chance.sample(range(6, 396), 4):
                    worn[place] = 1
                scans.append(tuple(worn))
            own = sum(price_of(wear, row, scan) for scan in scans)
            self.equal(fitting(made, scans, own), [(own, text)])
            self.equal(sure_signs(made, scans, own), list(text))
            self.equal(len(least_scans(made, scans, text)) <= 3, True)

    def test_wrong_lists(self):
        for thing in lists_of_no_scans(chain()):
            self.raises(BadList(-1), fitting, chain(), thing, 1)
            self.raises(BadList(-1), sure_signs, chain(), thing, 1)
            self.raises(BadList(-1), least_scans, chain(), thing, "")

    def test_wrong_scans(self):
        for made in (chain(), far_chain(1)):
            row = label(made.book, "a")
            for thing in wrong_rows(made):
                for index in range(5):
                    scans = [row] * index + [thing] + [None] * (4 - index)
                    self.raises(BadList(index), fitting, made, scans, 1)
                    self.raises(BadList(index), sure_signs, made, scans, 1)
                    self.raises(BadList(index), least_scans, made, scans, "a")
            for other in (label(made.book, ""), label(made.book, "aa"), row[1:], row + (0,)):
                for index in range(1, 5):
                    scans = [row] * index + [other] + [row] * (4 - index)
                    self.raises(BadList(index), fitting, made, scans, 1)
                    self.raises(BadList(index), sure_signs, made, scans, 1)
                    self.raises(BadList(index), least_scans, made, scans, "a")
        self.raises(BadList(0), fitting, chain(), [nested((0,), 29, lambda x: (x,))], 1)

    def test_wrong_prices(self):
        for thing in [thing for thing in things() if not (type(thing) is int and thing >= 0)] + [True, -1]:
            self.raises(BadNumber("most"), fitting, chain(), [(0,) * 6], thing)
            self.raises(BadNumber("most"), sure_signs, chain(), [(0,) * 6], thing)

    def test_order(self):
        made, row = branching(501), (1,) * 42
        for call in (fitting, sure_signs):
            self.raises(BadList(-1), call, made, [row] * 6, -1)
            self.raises(BadList(1), call, made, [row, None], -1)
            self.raises(BadNumber("most"), call, made, [row], -1)
            self.raises(TooMany(500), call, made, [row], 0)

    def test_what_was_passed_stays_as_it_is(self):
        scans = [(1, 1, 1, 0, 0, 1)] * 2
        fitting(chain(), scans, 5).clear()
        self.equal(scans, [(1, 1, 1, 0, 0, 1)] * 2)
        self.equal(fitting(chain(), scans, 5), [(0, "")])


class TestSureSigns(Case):

    def test_by_hand(self):
        made = chain(rule=all_texts(("a", "b")))
        row = (1, 1, 1, 1, 1, 1, 0, 1, 1, 0, 0, 1)
        self.equal(sure_signs(made, [row], 1), [None, "a"])
        self.equal(sure_signs(made, [row], 0), None)
        self.equal(sure_signs(most=9, scans=(row,), chain=made), [None, None])
        self.equal(sure_signs(made, [(1, 1, 1, 0, 0, 1)], 0), [])
        self.equal(sure_signs(made, [(1, 1, 0, 0, 0, 1)], 0), None)

    def test_against_fitting(self):
        chance = random.Random(257)
        met = {"none": 0, "empty": 0, "some": 0, "all": 0}
        for made in some_chains(120, 258):
            for signs in range(4 if made.book.width == 2 else 3):
                scans = some_scans(made, signs, chance.randint(1, 5), chance)
                for most in (0, 2, 5):
                    found = sure_signs(made, scans, most)
                    self.equal(found, sure_as_told(fitting(made, scans, most)))
                    what = "none" if found is None else "empty" if not found else "some" if None in found else "all"
                    met[what] += 1
        self.assertGreater(min(met.values()), 20)

    def test_each_list_is_new(self):
        made = chain(rule=all_texts(("a", "b")))
        sure_signs(made, [(1, 1, 1, 0, 1, 1, 0, 0, 1)], 0).clear()
        self.equal(sure_signs(made, [(1, 1, 1, 0, 1, 1, 0, 0, 1)], 0), ["a"])


class TestLeastScans(Case):

    def test_by_hand(self):
        made = chain(rule=all_texts(("a", "b")))
        dim, clear = (1, 1, 1, 1, 1, 1, 0, 0, 1), (1, 1, 1, 0, 1, 1, 0, 0, 1)
        self.equal(least_scans(made, [clear, dim], "a"), (0,))
        self.equal(least_scans(made, [dim, clear, clear], "a"), (1,))
        self.equal(least_scans(text="a", scans=(dim, dim), chain=made), None)
        self.equal(least_scans(made, [clear, dim], "b"), None)

    def test_two_scans_that_tell_together(self):
        # Each scan alone can be of two texts: the first sign is dim in one, and the second sign in the other one.
        made = chain(rule=all_texts(("a", "b")))
        first = (1, 1, 1) + (1, 1, 1) + (1, 0, 1) + (0, 0, 1)
        second = (1, 1, 1) + (0, 1, 1) + (1, 1, 1) + (0, 0, 1)
        self.equal(least_scans(made, [first, first, second], "ab"), (0, 2))
        self.equal(least_scans(made, [second, first], "ab"), (0, 1))
        self.equal(least_scans(made, [first] * 5, "ab"), None)

    def test_against_all_choices(self):
        chance = random.Random(259)
        met = {}
        for made in some_chains(120, 260, signs=3):
            for _ in range(3):
                signs = chance.randint(0, 3 if made.book.width == 2 else 2)
                scans = some_scans(made, signs, chance.randint(1, 5), chance)
                for _, text in fitting_as_told(made, scans)[:3]:
                    wanted = least_scans_as_told(made, scans, text)
                    self.equal(least_scans(made, scans, text), wanted)
                    met[wanted and len(wanted)] = met.get(wanted and len(wanted), 0) + 1
        self.assertGreater(met[None], 10)
        self.assertGreater(met[1], 10)

    def test_scans_with_many_changes(self):
        chance = random.Random(263)
        met = {}
        for wear in (flips(1, 1), flips(1, 2), rare(1, 1, 1)):
            made = chain(wear=wear, rule=all_texts(("a", "b")))
            for _ in range(40):
                text = "".join(chance.choice("ab") for _ in range(3))
                scans = []
                while len(scans) < 5:
                    worn = [cell ^ (chance.random() < 0.15) for cell in label(made.book, text)]
                    if price_of(wear, label(made.book, text), tuple(worn)) is not None:
                        scans.append(tuple(worn))
                wanted = least_scans_as_told(made, scans, text)
                self.equal(least_scans(made, scans, text), wanted)
                met[wanted and len(wanted)] = met.get(wanted and len(wanted), 0) + 1
        self.assertGreater(met[2], 4)
        self.assertGreater(met[1], 5)

    def test_more_than_500_texts_are_more_than_one(self):
        rows_of_chance = [(0, 1) * 21, (1,) * 42]
        for many in (2, 500, 501, 40000):
            self.equal(least_scans(branching(many), rows_of_chance, "00000"), None)
        self.equal(least_scans(branching(1), rows_of_chance, "00000"), (0,))

    def test_no_texts(self):
        made = chain()
        row = label(made.book, "bb")
        for thing in things() + ["a", "ab", "ba", "bbb", "b", "", "bc", "BB", "bb ", b"bb", ["b", "b"], None, "c" * 60]:
            if thing != "bb":
                self.raises(NoText(), least_scans, made, [row], thing)
        self.equal(least_scans(made, [row], "bb"), (0,))
        self.raises(NoText(), least_scans, chain(rule=no_text()), [row], "bb")
        self.raises(NoText(), least_scans, chain(rule=lengths(("a", "b"), 0, 1)), [row], "bb")

    def test_no_price_for_one_scan(self):
        made = with_wear(chain(), strokes(1, 1))
        row = label(made.book, "bb")
        dim = (0,) + row[1:]
        for index in range(5):
            scans = [row] * index + [dim] + [row] * (4 - index)
            self.raises(NoText(), least_scans, made, scans, "bb")
        self.equal(least_scans(made, [row] * 5, "bb"), (0,))

    def test_order(self):
        self.raises(BadList(-1), least_scans, chain(), [], None)
        self.raises(BadList(0), least_scans, chain(), [None], None)
        self.raises(NoText(), least_scans, branching(501), [(1,) * 42], None)


def voted_row(given):
    """Return the row that most of some rows have, cell by cell."""
    return tuple(int(sum(row[place] for row in given) * 2 > len(given)) for place in range(len(given[0])))


def read_as_told(reader, row):
    """Return the text that a reader reads in a row, or None."""
    marks = [reader.marks.get(row[place:place + reader.width]) for place in range(0, len(row), reader.width)]
    if marks[:1] != ["start"] or "stop" not in marks:
        return None
    inner = marks[1:marks.index("stop")]
    return None if None in inner or "start" in inner else "".join(inner)


class TestVoted(Case):

    def test_by_hand(self):
        reader = strict(chain().book)
        self.equal(voted(reader, [(1, 1, 1, 0, 0, 1)]), "")
        rows_of_a = [(1, 1, 1, 0, 1, 1, 0, 0, 0), (1, 0, 1, 0, 1, 1, 0, 0, 1), (1, 1, 1, 1, 1, 0, 1, 0, 1)]
        self.equal(voted(reader, rows_of_a), "a")
        self.equal(voted(rows=tuple(rows_of_a), reader=reader), "a")
        self.equal([voted(reader, [row]) for row in rows_of_a], [None, None, None])

    def test_as_many_of_both(self):
        # Where as many rows are dark as light the cell is light.
        reader = Reader(2, {(1, 1): "start", (0, 1): "a", (1, 0): "b", (0, 0): "stop"})
        self.equal(voted(reader, [(1, 1, 1, 1, 0, 0), (1, 1, 0, 1, 0, 0)]), "a")
        self.equal(voted(reader, [(1, 1, 1, 0, 0, 1), (1, 1, 1, 0, 1, 0)]), "b")
        self.equal(voted(reader, [(1, 1, 0, 0), (0, 0, 1, 1)]), None)
        self.equal(voted(reader, [(1, 1, 1, 1), (1, 1, 0, 1), (1, 1, 1, 0), (1, 1, 0, 0)]), "")

    def test_against_counting(self):
        chance = random.Random(261)
        met = {}
        for reader in some_readers(some_books(8)) * 4:
            blocks_of = {mark: row for row, mark in reader.marks.items()}
            for many in range(1, 10):
                length = chance.randint(0, 4)
                marks = ["start"] + [chance.choice(sorted(blocks_of) or ["start"]) for _ in range(length)] + ["stop"]
                row = tuple(cell for mark in marks for cell in blocks_of.get(mark, (0,) * reader.width))
                given = [tuple(cell ^ (chance.random() < 0.2) for cell in row) for _ in range(many)]
                found = voted(reader, chance.choice((list, tuple))(given))
                self.equal(found, read_as_told(reader, voted_row(given)))
                met[found is None] = met.get(found is None, 0) + 1
        self.assertGreater(min(met.values()), 20)

    def test_empty_rows(self):
        for many in range(1, 10):
            self.equal(voted(strict(chain().book), [()] * many), None)

    def test_wrong_lists(self):
        reader, row = strict(chain().book), (1, 1, 1, 0, 0, 1)
        for thing in things() + [[], (), [row] * 10, (row,) * 10, {0: row}, {row: row}, "010101"]:
            if not (isinstance(thing, (list, tuple)) and 1 <= len(thing) <= 9):
                self.raises(BadList(-1), voted, reader, thing)
        self.equal(voted(reader, [row] * 9), "")

    def test_wrong_items(self):
        reader, row = strict(chain().book), (1, 1, 1, 0, 0, 1)
        for thing in not_rows() + [(0,), (1,) * 5, (0,) * 7, (0, 1), (1,) * 400]:
            for index in range(9):
                self.raises(BadList(index), voted, reader, [row] * index + [thing] + [None] * (8 - index))
        for index in range(1, 9):
            for thing in ((), (0,) * 3, (0,) * 9):
                self.raises(BadList(index), voted, reader, [row] * index + [thing] + [row] * (8 - index))
        self.raises(BadList(0), voted, reader, [(0,) * 4] * 2)

    def test_fact(self):
        chance = random.Random(262)
        for one in some_books(12):
            reader = strict(one)
            for many in range(1, 10):
                text = "".join(chance.choice(one.signs) for _ in range(chance.randint(0, 12)))
                given = [list(label(one, text)) for _ in range(many)]
                for place in range(len(given[0])):
                    for index in chance.sample(range(many), (many - 1) // 2):
                        given[index][place] ^= 1
                self.equal(voted(reader, [tuple(row) for row in given]), text)

    def test_a_near_reader(self):
        one = far_chain(1).book
        worn = [cell ^ (place % 6 == 2) for place, cell in enumerate(label(one, "abba"))]
        self.equal(voted(near(one, 1), [tuple(worn)] * 4), "abba")
        self.equal(voted(strict(one), [tuple(worn)] * 4), None)


class TestOthers(Case):

    def test_windows_and_readers_do_not_count(self):
        scans = [(1, 1, 1, 1, 0, 1, 0, 0, 1), (1, 1, 1, 1, 1, 1, 0, 0, 1)]
        for other in (chain(window=darkest(2)), chain(reader=Reader(3, {}))):
            self.equal(fitting(other, scans, 4), fitting(chain(), scans, 4))
            self.equal(sure_signs(other, scans, 4), ["b"])
            self.equal(least_scans(other, scans, "b"), (0,))

    def test_a_wear_that_leaves_all_as_it_is(self):
        made = chain(wear=STILL)
        for text in [text for text in texts("ab", 4) if EVEN.lets(text)]:
            row = label(made.book, text)
            self.equal(fitting(made, [row, row], 7), [(0, text)])
            self.equal(least_scans(made, [row], text), (0,))
            for other in rows(len(row))[:5]:
                self.equal(fitting(made, [row, other], 10 ** 39), [])

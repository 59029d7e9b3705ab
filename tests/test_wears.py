"""Tests of surelabels.wears: points 5.1 to 5.6."""

import itertools
import random

from surelabels.errors import BadNumber, BadRow, BadWear, TooMany
from surelabels.wears import Wear, flips, is_plain, price_of, rare, strokes, worn_rows, worn_twice
from tests.helpers import Case, rows, things
from tests.test_cells import not_rows

STAY = ((0, 0, 0, 0), (1, 1, 0, 0))


def some_wears(many, most=3, seed=5):
    """Return wears of chance, the same ones each time."""
    chance = random.Random(seed)
    made = []
    for _ in range(many):
        places = chance.randint(1, most)
        moves = []
        for _ in range(places):
            row = [(cell, cell, 0, chance.randrange(places)) for cell in (0, 1)]
            row += [(chance.randint(0, 1), chance.randint(0, 1), chance.randint(0, 4), chance.randrange(places))
                    for _ in range(chance.randint(0, 4))]
            chance.shuffle(row)
            moves.append(tuple(row))
        made.append(Wear(tuple(moves)))
    return made


def prices_as_told(wear, row):
    """Return the least prices of all worn rows, by all rows of moves."""
    found = {}
    ways = [((), 0, 0)]
    for cell in row:
        ways = [(worn + (move[1],), price + move[2], move[3]) for worn, price, place in ways
                for move in wear.moves[place] if move[0] == cell]
    for worn, price, _ in ways:
        found[worn] = min(price, found.get(worn, price))
    return found


def is_move(thing, many):
    """Tell whether an object is a move among `many` standing places."""
    return (type(thing) in (tuple, list) and len(thing) == 4 and all(type(item) is int for item in thing)
            and thing[0] in (0, 1) and thing[1] in (0, 1) and thing[2] >= 0 and 0 <= thing[3] < many)


class TestWear(Case):

    def test_field(self):
        moves = ((((0, 0, 0, 0), (1, 1, 0, 1), (1, 0, 7, 1))), ((0, 0, 0, 1), (1, 1, 0, 0)))
        self.equal(Wear(moves).moves, moves)
        self.equal(Wear(moves=(STAY,)).moves, (STAY,))

    def test_lists_are_as_good(self):
        for made in (Wear([STAY]), Wear([list(STAY)]), Wear([[list(move) for move in STAY]]), Wear((list(STAY),)),
                     Wear(([(0, 0, 0, 0), [1, 1, 0, 0]],))):
            self.equal(made.moves, (STAY,))
            self.assertTrue(made == Wear((STAY,)))

    def test_lists_changed_afterwards(self):
        moves = [[[0, 0, 0, 0], [1, 1, 0, 0], [0, 1, 3, 0]]]
        made = Wear(moves)
        self.equal(moves, [[[0, 0, 0, 0], [1, 1, 0, 0], [0, 1, 3, 0]]])
        moves[0][2][2] = 1
        moves[0].append([1, 0, 1, 0])
        moves.append([])
        self.equal(made.moves, ((*STAY, (0, 1, 3, 0)),))
        self.equal(price_of(made, (0, 1), (1, 1)), 3)
        self.equal(price_of(made, (0, 1), (1, 0)), None)

    def test_one_standing_place_and_six(self):
        self.equal(len(Wear((STAY,)).moves), 1)
        self.equal(len(Wear((STAY,) * 6).moves), 6)
        self.raises(BadWear(-1, -1), Wear, (STAY,) * 7)
        self.raises(BadWear(-1, -1), Wear, ())
        self.raises(BadWear(-1, -1), Wear, [])

    def test_staying_may_lead_elsewhere(self):
        self.equal(len(Wear([[(0, 0, 0, 1), (1, 1, 0, 1)], [(0, 0, 0, 0), (1, 1, 0, 1)]]).moves), 2)

    def test_no_tuple_of_tuples(self):
        for thing in things():
            if not (type(thing) in (tuple, list) and 1 <= len(thing) <= 6
                    and all(type(part) in (tuple, list) for part in thing)):
                self.raises(BadWear(-1, -1), Wear, thing)
            if type(thing) not in (tuple, list):
                self.raises(BadWear(-1, -1), Wear, (thing,))
                self.raises(BadWear(-1, -1), Wear, (STAY, thing))
                self.raises(BadWear(-1, -1), Wear, [[(5,)], thing])

    def test_wrong_moves(self):
        for thing in things() + [(0, 0, 0), (0, 0, 0, 0, 0), (2, 0, 0, 0), (0, 2, 0, 0), (0, 0, -1, 0), (0, 0, 0, 2),
                                 (0, 0, 0, -1), (-1, 0, 0, 0), (0, -1, 0, 0), "0000", range(4),
                                 {0: 0, 1: 1, 2: 2, 3: 3}]:
            if not is_move(thing, 2):
                self.raises(BadWear(0, 0), Wear, ((thing,), STAY))
                self.raises(BadWear(1, 2), Wear, (STAY, (*STAY, thing, thing)))
                self.raises(BadWear(0, 2), Wear, [[*STAY, thing], [thing]])
            for at in range(4):
                move = [0, 1, 0, 1]
                move[at] = thing
                if not is_move(move, 2):
                    self.raises(BadWear(1, 2), Wear, (STAY, (*STAY, tuple(move))))
                    self.raises(BadWear(1, 2), Wear, [STAY, [*STAY, move]])

    def test_flags_are_no_integers(self):
        for move in ((False, 0, 0, 0), (0, False, 0, 0), (0, 0, False, 0), (0, 0, 0, False), (True, 1, 0, 0),
                     (1, True, 0, 0), (1, 1, True, 0)):
            self.raises(BadWear(0, 2), Wear, ((*STAY, move),))

    def test_first_wrong_move_over_all_places(self):
        bad = (0, 2, 0, 0)
        self.raises(BadWear(0, 1), Wear, ((STAY[0], bad, bad), (bad, STAY[1])))
        self.raises(BadWear(1, 0), Wear, (STAY, (bad, STAY[1]), (bad,)))
        self.raises(BadWear(2, 3), Wear, (STAY, STAY, STAY + STAY[:1] + (bad,)))

    def test_wrong_move_goes_ahead_of_staying(self):
        self.raises(BadWear(1, 0), Wear, ((), ((0, 0, 0, 5),)))
        self.raises(BadWear(1, 2), Wear, (STAY[:1], (*STAY, (0, 1, None, 0))))

    def test_a_cell_cannot_stay(self):
        self.raises(BadWear(0, -1), Wear, ((),))
        self.raises(BadWear(0, -1), Wear, (STAY[:1],))
        self.raises(BadWear(0, -1), Wear, (STAY[1:],))
        self.raises(BadWear(0, -1), Wear, (((0, 0, 1, 0), (1, 1, 0, 0)),))
        self.raises(BadWear(0, -1), Wear, (((0, 0, 0, 0), (1, 1, 1, 0)),))
        self.raises(BadWear(0, -1), Wear, (((0, 1, 0, 0), (1, 0, 0, 0)),))
        self.raises(BadWear(0, -1), Wear, (((0, 0, 0, 0), (0, 1, 0, 0), (1, 0, 0, 0)),))
        self.raises(BadWear(1, -1), Wear, (STAY, STAY[:1], ()))
        self.raises(BadWear(5, -1), Wear, [STAY] * 5 + [[]])

    def test_equality(self):
        self.assertTrue(flips(1, 2) == flips(1, 2))
        self.assertFalse(flips(1, 2) != flips(1, 2))
        for other in (flips(2, 2), Wear((STAY,)), Wear(flips(1, 2).moves * 2), Wear((flips(1, 2).moves[0][::-1],)),
                      Wear((flips(1, 2).moves[0] + ((0, 0, 0, 0),),))):
            self.assertTrue(flips(1, 2) != other)
            self.assertFalse(flips(1, 2) == other)


class TestPriceOf(Case):

    def test_by_hand(self):
        self.equal(price_of(flips(1, 2), (0, 1, 1), (1, 1, 0)), 3)
        self.equal(price_of(strokes(5, 2), (0, 0, 0, 0), (1, 1, 0, 1)), 10)
        self.equal(price_of(strokes(5, 2), (0, 0, 0), (1, 1, 1)), 10)
        self.equal(price_of(strokes(5, 3), (0, 1, 0), (1, 1, 1)), 5)
        self.equal(price_of(strokes(5, 2), (1, 0), (0, 0)), None)
        self.equal(price_of(rare(1, 2, 1), (0, 0, 0), (1, 0, 1)), 2)
        self.equal(price_of(rare(1, 2, 1), (0, 0, 0), (1, 1, 0)), None)
        self.equal(price_of(rare(1, 2, 2), (0, 0, 0), (1, 0, 1)), None)

    def test_empty_row(self):
        self.equal(price_of(worn=(), row=(), wear=flips(1, 2)), 0)

    def test_least_of_several_ways(self):
        wear = Wear([[*STAY, (0, 1, 9, 0), (0, 1, 2, 1), (0, 1, 2, 0)], [(0, 0, 0, 1), (1, 1, 0, 1), (0, 1, 8, 1)]])
        self.equal(price_of(wear, (0, 0), (1, 0)), 2)
        self.equal(price_of(wear, (0, 0), (1, 1)), 4)
        later = Wear([[*STAY, (0, 1, 1, 1), (0, 1, 3, 0)], [(0, 0, 0, 1), (1, 1, 0, 1)]])
        self.equal(price_of(later, (0, 0), (1, 0)), 1)
        self.equal(price_of(later, (0, 0), (1, 1)), 4)

    def test_all_short_rows(self):
        for wear in some_wears(25) + [strokes(2, 3), rare(1, 3, 2), flips(0, 4)]:
            for row in rows(4):
                found = prices_as_told(wear, row)
                for worn in rows(4):
                    self.equal(price_of(wear, row, worn), found.get(worn))

    def test_long_rows(self):
        self.equal(price_of(flips(3, 10 ** 39), (0, 1) * 200, (1, 0) * 200), 200 * (3 + 10 ** 39))
        self.equal(price_of(strokes(7, 5), (0,) * 400, (1,) * 400), 7 * 80)
        self.equal(price_of(strokes(7, 5), (0,) * 399 + (1,), (1,) * 399 + (0,)), None)

    def test_wrong_rows(self):
        for thing in not_rows():
            self.raises(BadRow("row"), price_of, flips(1, 1), thing, (0,))
            self.raises(BadRow("worn"), price_of, flips(1, 1), (0,), thing)
            self.raises(BadRow("row"), price_of, flips(1, 1), thing, thing)

    def test_lengths(self):
        self.raises(BadRow("length"), price_of, flips(1, 1), (0,), ())
        self.raises(BadRow("length"), price_of, flips(1, 1), (0, 1), (0, 1, 1))


class TestWornRows(Case):

    def test_by_hand(self):
        self.equal(worn_rows(flips(1, 2), (0, 1), 2), [((0, 1), 0), ((1, 1), 1), ((0, 0), 2)])
        self.equal(worn_rows(flips(1, 2), (0, 1), 3), [((0, 1), 0), ((1, 1), 1), ((0, 0), 2), ((1, 0), 3)])
        self.equal(worn_rows(flips(1, 1), (0, 0), 1), [((0, 0), 0), ((0, 1), 1), ((1, 0), 1)])
        self.equal(worn_rows(flips(0, 5), (1, 0), 0), [((1, 0), 0), ((1, 1), 0)])
        self.equal(worn_rows(most=4, row=(0, 0), wear=strokes(5, 2)), [((0, 0), 0)])
        self.equal(worn_rows(strokes(5, 2), (0, 0), 5), [((0, 0), 0), ((0, 1), 5), ((1, 0), 5), ((1, 1), 5)])

    def test_empty_row(self):
        self.equal(worn_rows(flips(1, 1), (), 0), [((), 0)])
        self.equal(worn_rows(flips(1, 1), (), 10 ** 39), [((), 0)])

    def test_rows_without_a_price_are_left_out(self):
        self.equal(worn_rows(strokes(1, 1), (1, 0), 10 ** 39), [((1, 0), 0), ((1, 1), 1)])
        self.equal(worn_rows(Wear((STAY,)), (1, 0) * 200, 10 ** 39), [((1, 0) * 200, 0)])

    def test_all_short_rows(self):
        for wear in some_wears(25, seed=6) + [strokes(2, 3), rare(1, 3, 2), flips(0, 4)]:
            for row in rows(3) + rows(5)[::5]:
                found = prices_as_told(wear, row)
                for most in (0, 1, 2, 3, 5, 100):
                    wanted = sorted((price, worn) for worn, price in found.items() if price <= most)
                    self.equal(worn_rows(wear, row, most), [(worn, price) for price, worn in wanted])

    def test_the_row_itself_is_there(self):
        for wear in some_wears(10, seed=16):
            for row in rows(4):
                self.assertIn((row, 0), worn_rows(wear, row, 0))

    def test_rows_of_400_cells(self):
        row = (0, 1) * 200
        found = worn_rows(flips(1, 2), row, 1)
        self.equal(len(found), 201)
        self.equal(found[0], (row, 0))
        self.equal(found[1], ((0, 1) * 199 + (1, 1), 1))
        self.equal(found[200], ((1, 1) + (0, 1) * 199, 1))
        self.equal(len(worn_rows(strokes(1, 2), (0,) * 400, 1)), 800)

    def test_just_1000_and_more(self):
        # 44 light cells, of which one or two become dark, and dark cells, of which one becomes light.
        row = (0,) * 44 + (1,) * 9
        self.equal(len(worn_rows(flips(1, 2), row, 2)), 1 + 44 + 946 + 9)
        self.raises(TooMany(1000), worn_rows, flips(1, 2), row + (1,), 2)
        self.raises(TooMany(1000), worn_rows, flips(1, 2), (1,) + row, 2)
        self.raises(TooMany(1000), worn_rows, flips(1, 1), (0,) * 400, 2)
        self.raises(TooMany(1000), worn_rows, flips(1, 1), (0,) * 400, 10 ** 39)
        self.raises(TooMany(1000), worn_rows, flips(1, 1), (0,) * 10, 10)
        self.equal(len(worn_rows(flips(1, 1), (0,) * 9, 9)), 512)

    def test_many_ways_to_one_row_count_once(self):
        wear = Wear([STAY + tuple((0, 1, 1, 0) for _ in range(50))])
        self.equal(len(worn_rows(wear, (0,) * 9, 9)), 512)

    def test_ways_that_cost_too_much_do_not_count(self):
        self.equal(len(worn_rows(flips(5, 5), (0,) * 400, 4)), 1)

    def test_wrong_row(self):
        for thing in not_rows():
            self.raises(BadRow("row"), worn_rows, flips(1, 1), thing, 1)

    def test_wrong_most(self):
        for thing in things() + [-1]:
            if type(thing) is not int or thing < 0:
                self.raises(BadNumber("most"), worn_rows, flips(1, 1), (0,), thing)
                self.raises(BadNumber("most"), worn_rows, flips(0, 0), (0,) * 400, thing)

    def test_order_of_the_errors(self):
        self.raises(BadRow("row"), worn_rows, flips(1, 1), [0], -1)

    def test_each_list_is_new(self):
        wear = flips(1, 1)
        worn_rows(wear, (0,), 1).clear()
        self.equal(worn_rows(wear, (0,), 1), [((0,), 0), ((1,), 1)])


class TestIsPlain(Case):

    def test_plain(self):
        for wear in (flips(1, 2), flips(0, 0), rare(1, 2, 3), Wear((STAY,)), Wear((STAY,) * 6)):
            self.equal(is_plain(wear), True)

    def test_not_plain(self):
        self.equal(is_plain(strokes(1, 1)), False)
        self.equal(is_plain(wear=strokes(1, 3)), False)
        self.equal(is_plain(Wear([STAY, [*STAY, (0, 1, 1, 0), (0, 1, 1, 1)]])), False)
        self.equal(is_plain(Wear([STAY, [*STAY, (0, 1, 1, 0), (0, 1, 2, 0)]])), False)
        self.equal(is_plain(Wear([[*STAY, (0, 0, 1, 0)]])), False)

    def test_the_same_move_twice(self):
        self.equal(is_plain(Wear([[*STAY, (0, 1, 1, 0), (0, 1, 1, 0)]])), False)
        self.equal(is_plain(Wear([STAY + STAY[:1]])), False)

    def test_the_same_at_two_places(self):
        self.equal(is_plain(Wear([[*STAY, (0, 1, 1, 1)], [*STAY, (0, 1, 1, 1)]])), True)


class TestMakers(Case):

    def test_flips(self):
        self.equal(flips(1, 2).moves, (((0, 0, 0, 0), (0, 1, 1, 0), (1, 1, 0, 0), (1, 0, 2, 0)),))
        self.equal(flips(light=0, dark=10 ** 39).moves,
                   (((0, 0, 0, 0), (0, 1, 10 ** 39, 0), (1, 1, 0, 0), (1, 0, 0, 0)),))
        self.assertIsInstance(flips(1, 2), Wear)

    def test_strokes(self):
        for price in (0, 4):
            for length in range(1, 6):
                begun = ((0, 1, price, length - 1), (1, 1, price, length - 1))
                places = [STAY + begun]
                places += [STAY + ((0, 1, 0, k - 1), (1, 1, 0, k - 1)) + begun for k in range(1, length)]
                self.equal(strokes(price, length).moves, tuple(places))
        self.equal(strokes(length=1, price=5).moves, (((0, 0, 0, 0), (1, 1, 0, 0), (0, 1, 5, 0), (1, 1, 5, 0)),))

    def test_price_of_strokes(self):
        for length in range(1, 6):
            for worn in rows(7):
                runs = [len(list(run)) for cell, run in itertools.groupby(worn) if cell]
                wanted = 3 * sum(-(-run // length) for run in runs)
                self.equal(price_of(strokes(3, length), (0,) * 7, worn), wanted)

    def test_rare(self):
        for pause in range(1, 6):
            places = [((0, 0, 0, 0), (0, 1, 3, pause), (1, 1, 0, 0), (1, 0, 4, pause))]
            places += [((0, 0, 0, k - 1), (1, 1, 0, k - 1)) for k in range(1, pause + 1)]
            self.equal(rare(3, 4, pause).moves, tuple(places))
            self.equal(rare(pause=pause, light=4, dark=3).moves, tuple(places))
        self.equal(rare(0, 0, 1).moves[0], ((0, 0, 0, 0), (0, 1, 0, 1), (1, 1, 0, 0), (1, 0, 0, 1)))

    def test_price_of_rare(self):
        for pause in range(1, 6):
            for row in ((0,) * 7, (0, 1, 1, 0, 1, 0, 0)):
                for worn in rows(7):
                    changed = [k for k in range(7) if row[k] != worn[k]]
                    fits = all(b - a > pause for a, b in zip(changed, changed[1:]))
                    wanted = sum(1 if worn[k] else 2 for k in changed) if fits else None
                    self.equal(price_of(rare(1, 2, pause), row, worn), wanted)

    def test_wrong_prices(self):
        for thing in things() + [-1]:
            if type(thing) is not int or thing < 0:
                self.raises(BadNumber("dark"), flips, thing, 1)
                self.raises(BadNumber("light"), flips, 1, thing)
                self.raises(BadNumber("dark"), flips, thing, thing)
                self.raises(BadNumber("price"), strokes, thing, 1)
                self.raises(BadNumber("price"), strokes, thing, 0)
                self.raises(BadNumber("dark"), rare, thing, 1, 1)
                self.raises(BadNumber("light"), rare, 1, thing, 1)
                self.raises(BadNumber("dark"), rare, thing, thing, thing)
                self.raises(BadNumber("light"), rare, 1, thing, thing)

    def test_wrong_lengths(self):
        for thing in things() + [0, 6]:
            if type(thing) is not int or not 1 <= thing <= 5:
                self.raises(BadNumber("length"), strokes, 1, thing)
                self.raises(BadNumber("pause"), rare, 1, 1, thing)


def twice_as_told(one, other):
    """Return the moves of a wear that is first one and then other, as the document numbers them."""
    met = [(0, 0)]
    made = []
    while len(made) < len(met):
        first, second = met[len(made)]
        kept = []
        for cell, between, price, after in one.moves[first]:
            for taken, worn, more, then in other.moves[second]:
                if taken == between:
                    if (after, then) not in met:
                        met.append((after, then))
                    move = [cell, worn, price + more, met.index((after, then))]
                    same = [old for old in kept if old[:2] == move[:2] and old[3] == move[3]]
                    if not same:
                        kept.append(move)
                    elif same[0][2] > move[2]:
                        same[0][2] = move[2]
        made.append(tuple(tuple(move) for move in kept))
    return tuple(made)


class TestWornTwice(Case):

    def test_by_hand(self):
        self.equal(worn_twice(flips(1, 2), flips(3, 1)).moves,
                   (((0, 0, 0, 0), (0, 1, 1, 0), (1, 1, 0, 0), (1, 0, 1, 0)),))
        self.equal(worn_twice(one=flips(1, 1), other=rare(2, 5, 1)).moves,
                   (((0, 0, 0, 0), (0, 1, 2, 1), (0, 1, 1, 0), (0, 0, 6, 1),
                     (1, 1, 0, 0), (1, 0, 5, 1), (1, 0, 1, 0), (1, 1, 3, 1)),
                    ((0, 0, 0, 0), (0, 1, 1, 0), (1, 1, 0, 0), (1, 0, 1, 0))))

    def test_least_price_at_the_place_of_the_first_move(self):
        one = Wear([[(0, 1, 9, 0), (0, 0, 0, 0), (1, 1, 0, 0), (0, 1, 2, 0)]])
        self.equal(worn_twice(one, Wear((STAY,))).moves, (((0, 1, 2, 0), (0, 0, 0, 0), (1, 1, 0, 0)),))

    def test_first_one_and_then_other(self):
        darker, lighter = strokes(1, 1), Wear([[*STAY, (1, 0, 1, 0)]])
        self.equal(price_of(worn_twice(darker, lighter), (0,), (0,)), 0)
        once = Wear([[(0, 0, 0, 0), (1, 1, 0, 0), (0, 1, 1, 1)], [(0, 0, 0, 1), (1, 1, 0, 1)]])
        self.equal(price_of(worn_twice(once, flips(5, 7)), (0, 0), (1, 1)), 6)
        self.assertFalse(worn_twice(once, flips(5, 7)) == worn_twice(flips(5, 7), once))

    def test_numbering(self):
        made = some_wears(60, 2, 7)
        for one, other in zip(made, made[1:]):
            self.equal(worn_twice(one, other).moves, twice_as_told(one, other))
        self.equal(worn_twice(strokes(1, 2), rare(2, 3, 2)).moves, twice_as_told(strokes(1, 2), rare(2, 3, 2)))
        self.equal(worn_twice(rare(2, 3, 1), strokes(1, 3)).moves, twice_as_told(rare(2, 3, 1), strokes(1, 3)))

    def test_prices(self):
        made = some_wears(16, 2, 8)
        for one, other in zip(made, made[1:]):
            both = worn_twice(one, other)
            for row in rows(3):
                betweens = prices_as_told(one, row)
                found = {}
                for between, price in betweens.items():
                    for worn, more in prices_as_told(other, between).items():
                        found[worn] = min(price + more, found.get(worn, price + more))
                for worn in rows(3):
                    self.equal(price_of(both, row, worn), found.get(worn))

    def test_six_pairs_and_more(self):
        self.equal(len(worn_twice(rare(1, 1, 1), rare(1, 1, 2)).moves), 6)
        self.equal(len(worn_twice(rare(1, 1, 5), flips(1, 1)).moves), 6)
        self.raises(TooMany(6), worn_twice, rare(1, 1, 2), rare(1, 1, 2))
        self.raises(TooMany(6), worn_twice, strokes(1, 5), strokes(1, 2))
        cycle = [[(0, 0, 0, (k + 1) % 6), (1, 1, 0, (k + 1) % 6)] for k in range(6)]
        self.equal(len(worn_twice(Wear(cycle), Wear(cycle)).moves), 6)
        seven = Wear([[(0, 0, 0, 1), (1, 1, 0, 1)]] + [[(0, 0, 0, k % 2 + 1), (1, 1, 0, k % 2 + 1)] for k in (1, 2)])
        three = Wear([[(0, 0, 0, k % 3), (1, 1, 0, k % 3)] for k in (1, 2, 3)])
        self.raises(TooMany(6), worn_twice, seven, three)
        self.raises(TooMany(6), worn_twice, three, seven)

    def test_pairs_that_no_moves_lead_to_do_not_count(self):
        self.equal(len(worn_twice(Wear((STAY,) * 6), Wear((STAY,) * 6)).moves), 1)

    def test_what_is_made_is_not_changed(self):
        one, other = rare(1, 2, 1), strokes(3, 2)
        worn_twice(one, other)
        self.assertTrue(one == rare(1, 2, 1) and other == strokes(3, 2))

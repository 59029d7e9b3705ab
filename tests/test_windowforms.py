"""Tests of surelabels.windowforms: points 6.3 to 6.5."""

import itertools
import random

from surelabels.errors import BadNumber, BadRow
from surelabels.windowforms import (least_window, many_rest, never_darkens, never_lightens, rests, rises, swept_till,
                                    unlike_row)
from surelabels.windows import Window, behind, darkest, lightest, middle, same, swept
from tests.helpers import Case, rows, things
from tests.test_cells import not_rows
from tests.test_windows import looking_at, some_windows, swept_as_told

TURN = Window(0, (1, 0))


def all_rows(longest):
    """Return all rows of at most this length, in order."""
    return [row for length in range(longest + 1) for row in rows(length)]


def widened(window, radius):
    """Return a window of a greater radius that does the same."""
    out = radius - window.radius
    inner = rows(2 * window.radius + 1)
    return looking_at(radius, lambda cells: window.table[inner.index(cells[out:len(cells) - out])])


def odd_windows(seed, many=12):
    """Return windows that change the cells of few rows, and such that go against each other."""
    chance = random.Random(seed)
    made = [same(), TURN, Window(0, (0, 0)), Window(0, (1, 1)), behind(TURN, middle(1)), lightest(2), darkest(3),
            middle(2), middle(3), looking_at(1, lambda cells: cells[0]), looking_at(2, lambda cells: cells[4])]
    for _ in range(many):
        radius = chance.randint(0, 3)
        table = [cells[radius] for cells in rows(2 * radius + 1)]
        for _ in range(chance.randint(1, 2)):
            table[chance.randrange(len(table))] ^= 1
        made.append(Window(radius, table))
    return made


class TestLeastWindow(Case):

    def test_windows_that_are_the_least_ones(self):
        for window in [same(), TURN, middle(1), middle(2), middle(3), darkest(3), lightest(2)]:
            self.assertTrue(least_window(window) == window)
            self.assertIsInstance(least_window(window), Window)

    def test_a_window_that_does_nothing(self):
        for radius in range(4):
            idle = looking_at(radius, lambda cells: cells[len(cells) // 2])
            self.assertTrue(least_window(idle) == same())

    def test_least_radius_0(self):
        for radius in range(4):
            for item in (0, 1):
                self.assertTrue(least_window(Window(radius, (item,) * 2 ** (2 * radius + 1))) == Window(0, (item,) * 2))
            self.assertTrue(least_window(widened(TURN, radius)) == TURN)

    def test_outer_cells_without_effect_on_both_sides(self):
        for radius in range(4):
            for window in some_windows(6, (radius,), seed=40 + radius):
                least = least_window(window)
                for wider in range(radius, 4):
                    self.assertTrue(least_window(window=widened(window, wider)) == least)

    def test_outer_cells_without_effect_on_one_side(self):
        for give in (lambda cells: cells[0], lambda cells: cells[-1], lambda cells: cells[0] ^ cells[1],
                     lambda cells: max(cells[:-1]), lambda cells: min(cells[1:])):
            for radius in (1, 2, 3):
                window = looking_at(radius, give)
                self.assertTrue(least_window(window) == window)

    def test_an_effect_of_outer_cells_in_one_row_alone(self):
        for number in (0, 1, 63, 64, 100, 127):
            table = [0] * 128
            table[number] = 1
            self.assertTrue(least_window(Window(3, table)) == Window(3, table))

    def test_some_windows(self):
        for window in some_windows(20, (0, 1), seed=41) + odd_windows(42):
            least = least_window(window)
            self.assertIs(unlike_row(window, least), None)
            self.assertTrue(least.radius <= window.radius)
            if least.radius > 0:
                # No window of the next smaller radius does the same: two rows that it sees alike are told apart.
                inner = {}
                for cells in rows(2 * least.radius + 1):
                    item = swept_as_told(least, cells)[least.radius]
                    inner.setdefault(cells[1:-1], set()).add(item)
                self.assertIn({0, 1}, list(inner.values()))


class TestUnlikeRow(Case):

    def test_by_hand(self):
        self.equal(unlike_row(middle(1), middle(0)), (1,))
        self.equal(unlike_row(one=same(), other=TURN), (0,))
        self.equal(unlike_row(middle(1), darkest(1)), (1,))
        self.equal(unlike_row(middle(1), lightest(1)), (1, 1))
        self.equal(unlike_row(darkest(1), darkest(2)), (0, 0, 1))

    def test_windows_that_do_the_same(self):
        for window in some_windows(8, (0, 1, 2), seed=43):
            for radius in range(window.radius, 4):
                self.assertIs(unlike_row(window, widened(window, radius)), None)
                self.assertIs(unlike_row(widened(window, radius), window), None)

    def test_only_the_row_of_all_that_is_looked_at(self):
        for number in (127, 99, 65):
            table = [0] * 128
            table[number] = 1
            cells = rows(7)[number]
            self.equal(unlike_row(Window(3, table), Window(0, (0, 0))), cells)
            self.equal(unlike_row(Window(1, (0,) * 8), Window(3, table)), cells)

    def test_against_all_short_rows(self):
        windows = some_windows(16, seed=44) + odd_windows(45)
        chance = random.Random(46)
        for _ in range(60):
            one, other = chance.choice(windows), chance.choice(windows)
            unlike = [row for row in all_rows(8) if swept_as_told(one, row) != swept_as_told(other, row)]
            self.equal(unlike_row(one, other), unlike[0] if unlike else None)

    def test_none_just_if_the_least_windows_are_equal(self):
        windows = odd_windows(47, 6) + [widened(window, 2) for window in some_windows(4, (0, 1), seed=48)]
        for one, other in itertools.product(windows, repeat=2):
            self.equal(unlike_row(one, other) is None, least_window(one) == least_window(other))


def first_changed(window, cell):
    """Return the first row in which a cell of this value is changed, as the document says."""
    for row in all_rows(8):
        if any(a == cell and b != cell for a, b in zip(row, swept_as_told(window, row))):
            return row
    return None


class TestNever(Case):

    def test_by_hand(self):
        self.equal(never_lightens(window=middle(1)), (1,))
        self.equal(never_darkens(window=middle(1)), (1, 0, 1))
        for radius in range(4):
            self.assertIs(never_lightens(darkest(radius)), None)
            self.assertIs(never_darkens(lightest(radius)), None)
        self.equal(never_darkens(darkest(1)), (0, 1))
        self.equal(never_lightens(lightest(3)), (1,))
        self.equal((never_lightens(same()), never_darkens(same())), (None, None))
        self.equal((never_lightens(TURN), never_darkens(TURN)), ((1,), (0,)))

    def test_windows_that_change_only_at_the_ends_of_a_row(self):
        # A cell is changed only where three light cells stand behind it, or ahead of it.
        light = looking_at(3, lambda cells: cells[3] if any(cells[4:]) else 0)
        self.equal(never_lightens(light), (1,))
        self.assertIs(never_darkens(light), None)
        dark = looking_at(2, lambda cells: cells[2] if any(cells[:2]) else 1)
        self.equal(never_darkens(dark), (0,))
        self.assertIs(never_lightens(dark), None)
        inner = looking_at(2, lambda cells: 1 - cells[2] if all(cells[:2] + cells[3:]) else cells[2])
        self.equal(never_lightens(inner), (1, 1, 1, 1, 1))
        self.equal(never_darkens(inner), (1, 1, 0, 1, 1))

    def test_against_all_short_rows(self):
        for window in some_windows(24, seed=49) + odd_windows(50, 30):
            self.equal(never_lightens(window), first_changed(window, 1))
            self.equal(never_darkens(window), first_changed(window, 0))


def first_falling(window, longest):
    """Return the first pair of rows for which a window does not rise, as the document says."""
    for length in range(longest + 1):
        made = {row: swept_as_told(window, row) for row in rows(length)}
        for less in rows(length):
            for more in rows(length):
                if all(a <= b for a, b in zip(less, more)) and any(a > b for a, b in zip(made[less], made[more])):
                    return (less, more)
    return None


class TestRises(Case):

    def test_by_hand(self):
        for radius in range(4):
            for make in (darkest, lightest, middle):
                self.assertIs(rises(make(radius)), None)
        self.equal(rises(TURN), ((0,), (1,)))
        self.equal(rises(window=looking_at(1, lambda cells: cells[0] ^ cells[1])), ((0, 1), (1, 1)))

    def test_constant_windows(self):
        for item in (0, 1):
            self.assertIs(rises(Window(0, (item, item))), None)
            self.assertIs(rises(Window(3, (item,) * 128)), None)

    def test_against_all_short_rows(self):
        for window in some_windows(16, (0, 1, 2), seed=51) + odd_windows(52, 16):
            self.equal(rises(window), first_falling(window, 7))

    def test_windows_that_almost_rise(self):
        for radius in (1, 2, 3):
            for number in range(2 ** (2 * radius + 1)):
                table = list(middle(radius).table)
                table[number] ^= 1
                self.equal(rises(Window(radius, table)), first_falling(Window(radius, table), 2 * radius + 1))
                if radius == 3 and number > 12:
                    break

    def test_only_for_long_rows(self):
        # More dark cells give less only for the six outer cells with and without the one in the middle.
        window = looking_at(3, lambda cells: int(cells[:3] + cells[4:] == (1,) * 6 and not cells[3]))
        self.equal(rises(window), ((1, 1, 1, 0, 1, 1, 1), (1,) * 7))


class TestRests(Case):

    def test_by_hand(self):
        self.assertIs(rests(middle(1), (0, 1, 1, 0)), True)
        self.assertIs(rests(middle(1), (0, 1, 0)), False)
        self.assertIs(rests(row=(), window=TURN), True)
        self.assertIs(rests(TURN, (0,)), False)

    def test_some_windows(self):
        for window in some_windows(10, seed=53):
            for row in rows(5):
                self.assertIs(rests(window, row), swept_as_told(window, row) == row)

    def test_wrong_row(self):
        for thing in not_rows():
            self.raises(BadRow("row"), rests, middle(1), thing)


class TestManyRest(Case):

    def test_against_all_short_rows(self):
        for window in some_windows(20, seed=54) + odd_windows(55, 20):
            for length in range(9):
                wanted = sum(swept_as_told(window, row) == row for row in rows(length))
                self.equal(many_rest(window, length), wanted)

    def test_length_0(self):
        for window in some_windows(8, seed=56) + [TURN]:
            self.equal(many_rest(window, 0), 1)

    def test_length_200(self):
        self.equal(many_rest(same(), 200), 2 ** 200)
        self.equal(many_rest(length=200, window=TURN), 0)
        for radius in range(4):
            self.equal(many_rest(Window(radius, (0,) * 2 ** (2 * radius + 1)), 200), 1)
        # With the table of all but the cells 1, 1: no two dark cells side by side, which are the Fibonacci numbers.
        apart = looking_at(1, lambda cells: cells[1] if not (cells[1] and cells[2]) else 0)
        numbers = [1, 2]
        while len(numbers) <= 200:
            numbers.append(numbers[-1] + numbers[-2])
        self.equal(many_rest(apart, 200), numbers[200])

    def test_wrong_length(self):
        for thing in things() + [201, 202, -1]:
            if not (type(thing) is int and 0 <= thing <= 200):
                self.raises(BadNumber("length"), many_rest, middle(1), thing)


class TestSweptTill(Case):

    def test_rows_that_rest_at_once(self):
        for most in (0, 1, 200):
            self.equal(swept_till(middle(1), (0, 1, 1), most), (0, (0, 1, 1)))
            self.equal(swept_till(TURN, (), most), (0, ()))

    def test_rows_that_rest_after_some_sweeps(self):
        spread = darkest(1)
        row = (1, 0, 0, 0, 0)
        self.equal(swept_till(spread, row, 4), (4, (1,) * 5))
        self.equal(swept_till(spread, row, 200), (4, (1,) * 5))
        self.equal(swept_till(most=3, row=row, window=spread), (-1, (1, 1, 1, 1, 0)))
        self.equal(swept_till(spread, row, 1), (-1, (1, 1, 0, 0, 0)))
        self.equal(swept_till(spread, row, 0), (-1, row))

    def test_rows_that_never_rest(self):
        self.equal(swept_till(TURN, (0, 1), 0), (-1, (0, 1)))
        self.equal(swept_till(TURN, (0, 1), 1), (-1, (1, 0)))
        self.equal(swept_till(TURN, (0, 1), 199), (-1, (1, 0)))
        self.equal(swept_till(TURN, (0, 1), 200), (-1, (0, 1)))

    def test_200_sweeps(self):
        shift = looking_at(1, lambda cells: cells[0])
        self.equal(swept_till(shift, (1,) + (0,) * 199, 200), (200, (0,) * 200))
        self.equal(swept_till(shift, (1,) + (0,) * 200, 200), (-1, (0,) * 200 + (1,)))
        self.equal(swept_till(darkest(3), (1,) + (0,) * 399, 200), (133, (1,) * 400))

    def test_against_sweeping(self):
        for window in some_windows(12, seed=57) + odd_windows(58, 6):
            for row in rows(4) + rows(6)[::7]:
                for most in (0, 1, 2, 3, 7):
                    made = [row]
                    while len(made) <= most and swept(window, made[-1]) != made[-1]:
                        made.append(swept(window, made[-1]))
                    number = len(made) - 1 if swept(window, made[-1]) == made[-1] else -1
                    self.equal(swept_till(window, row, most), (number, made[-1]))

    def test_wrong_row_and_most(self):
        for thing in not_rows():
            self.raises(BadRow("row"), swept_till, middle(1), thing, 1)
        for thing in things() + [201, -1]:
            if not (type(thing) is int and 0 <= thing <= 200):
                self.raises(BadNumber("most"), swept_till, middle(1), (0, 1), thing)
        self.raises(BadRow("row"), swept_till, middle(1), [0], -1)
        self.raises(BadRow("row"), swept_till, middle(1), (2,), None)

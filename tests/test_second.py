"""Promise 14: several butts, one behind another, and promise 2 for what tells of them."""

import itertools
import unittest

from allbutts.longrun import bought, spilled
from allbutts.second import (
    idle_butts, is_butts, is_saves_against, least_second, levels_behind, never_saves_more, run_over, saves,
    saves_against, taken_from,
)
from allbutts.walks import levels
from allbutts.years import Year
from tests.helpers import DEEP, GREAT, NO_NUMBERS, CallCase, rows_to, walk_straight, year_with

YEAR, EVEN = Year((3, -1, 2, -4)), Year((2, -3, 3, -2))
LONGER = [
    (3, -1, 2, -4), (2, -3, 3, -2), (5, -2, 3, -4, 1, -3), (4, 1, -6, 2, -1), (9, -1, 1, -1, 1, -9), (7, -2, 2, -3, 1),
    (1, 2, 3), (-1, -5), (4,), (-4,),
]
BUTTS = [
    (0,), (3,), (1, 2), (2, 1), (0, 3), (3, 0), (0, 0, 4, 0), (1, 2, 5), (1, 1, 1, 1, 1, 1, 1, 1), (5, 0, 3, 1), (9, 9),
]
SOME = [Year(year_with(heap)) for heap in (
    (1, ()), (0, (1,)), (0, (2,)), (0, (4, 1)), (0, (3, 2)), (0, (2, 2, 2)), (3, (4, 4)), (0, (5,)), (1, (5, 1, 1)),
    (0, (1, 1, 1, 1)), (2, (4, 3, 2, 1)),
)] + [Year((6,)), Year((5, -3))]
# No swing of these years is greater.
LAST = 7


def one_run_straight(run, butts, before):
    """The levels behind a run, what each butt takes in or gives, and what runs over out of each."""
    after, taken, over = list(before), [0] * len(butts), [0] * len(butts)
    left = abs(run)
    for place, butt in enumerate(butts):
        if run > 0:
            fitting = min(left, butt - after[place])
            after[place] += fitting
            left -= fitting
            over[place] = left
        else:
            given = min(left, after[place])
            after[place] -= given
            left -= given
            taken[place] = given
    return tuple(after), taken, over


def year_straight(runs, butts, first):
    """The levels behind each run, and how much is taken out of, and runs over out of, each butt."""
    rows, level = [], tuple(first)
    taken, over = [0] * len(butts), [0] * len(butts)
    for run in runs:
        level, given, gone = one_run_straight(run, butts, level)
        rows.append(level)
        taken = [sum(pair) for pair in zip(taken, given)]
        over = [sum(pair) for pair in zip(over, gone)]
    return rows, tuple(taken), tuple(over)


def far_year_straight(runs, butts, first):
    """The same of a year behind many others."""
    level = first
    for _ in range(30):
        level = year_straight(runs, butts, level)[0][-1]
    return year_straight(runs, butts, level)


class ExamplesTest(unittest.TestCase):
    def test_several_butts(self):
        self.assertEqual(levels_behind(YEAR, (1, 2), (0, 0)), [(1, 2), (0, 2), (1, 2), (0, 0)])
        self.assertEqual((taken_from(YEAR, (1, 2, 5)), run_over(YEAR, (1, 2, 5))), ((2, 2, 1), (3, 1, 0)))
        self.assertEqual(idle_butts(YEAR, (1, 0, 3, 1)), (1, 3))

    def test_a_second_butt(self):
        self.assertEqual((saves(YEAR, 1, 2), saves(YEAR, 0, 1), saves(EVEN, 0, 1)), (2, 2, 2))
        self.assertEqual([least_second(YEAR, 1, number) for number in (0, 1, 3, 4)], [0, 1, 3, None])

    def test_against(self):
        steep = Year((3, -3))
        self.assertEqual((never_saves_more(YEAR, EVEN), never_saves_more(EVEN, YEAR)), (False, False))
        self.assertEqual((never_saves_more(steep, YEAR), saves_against(steep, YEAR)), (True, None))
        told = [is_saves_against(YEAR, EVEN, (3, 1)), is_saves_against(EVEN, YEAR, (1, 1))]
        self.assertEqual(told + [is_saves_against(YEAR, EVEN, (1, 1))], [True, True, False])
        self.assertEqual([is_butts(()), is_butts((0, 5)), is_butts((0,) * 9)], [False, True, True])


class WalkedTest(unittest.TestCase):
    def test_levels(self):
        for runs in list(rows_to(3, 2)) + LONGER:
            for butts in BUTTS[:-3]:
                for first in itertools.product(*[sorted({0, butt // 2, butt}) for butt in butts]):
                    told = levels_behind(Year(runs), butts, first)
                    self.assertEqual(told, year_straight(runs, butts, first)[0], (runs, butts, first))

    def test_the_first_ones_are_like_one_butt(self):
        for runs in LONGER:
            for butts in BUTTS:
                for first in ([0] * len(butts), butts, [butt // 2 for butt in butts]):
                    rows = levels_behind(Year(runs), butts, first)
                    for many in range(1, len(butts) + 1):
                        sums = [sum(row[:many]) for row in rows]
                        self.assertEqual(sums, levels(Year(runs), sum(butts[:many]), sum(first[:many])))

    def test_the_long_run(self):
        for runs in list(rows_to(3, 3)) + LONGER:
            year = Year(runs)
            for butts in BUTTS:
                empty, full = (0,) * len(butts), butts
                for first in (empty, full):
                    _, taken, over = far_year_straight(runs, butts, first)
                    self.assertEqual((taken_from(year, butts), run_over(year, butts)), (taken, over), (runs, butts))
                idle = tuple(place for place, number in enumerate(taken) if number == 0)
                self.assertEqual(idle_butts(year, butts), idle)

    def test_each_one_gives_its_share_of_the_swings(self):
        for runs in LONGER:
            year = Year(runs)
            for butts in BUTTS:
                told = taken_from(year, butts)
                for place, number in enumerate(told):
                    low, high = sum(butts[:place]), sum(butts[:place + 1])
                    self.assertEqual(number, sum(min(swing, high) - min(swing, low) for swing in year.swings))
                self.assertEqual(year.draws - sum(told), bought(year, sum(butts)))
                self.assertEqual(run_over(year, butts)[-1], spilled(year, sum(butts)))


class SecondTest(unittest.TestCase):
    def test_saves(self):
        for runs in LONGER:
            for butt, further in itertools.product((0, 1, 2, 3, 5, 9), repeat=2):
                level = walk_straight(runs * 30, butt, 0)[0]
                alone = walk_straight(runs, butt, level)[1]
                taken = sum(far_year_straight(runs, (butt, further), (0, 0))[1])
                both = Year(runs).draws - taken
                self.assertEqual(saves(Year(runs), butt, further), alone - both)

    def test_least_second(self):
        for year in SOME + [Year(runs) for runs in LONGER]:
            for butt in range(6):
                table = [saves(year, butt, further) for further in range(20)]
                for number in range(12):
                    right = [further for further, saved in enumerate(table) if saved >= number]
                    self.assertEqual(least_second(year, butt, number), min(right, default=None))
                self.assertIsNone(least_second(year, butt, max(table) + 1))
                self.assertIsNone(least_second(year, butt, GREAT))

    def test_never_saves_more(self):
        pairs = list(itertools.product(range(LAST), range(LAST)))
        for one, other in itertools.product(SOME, repeat=2):
            more = [pair for pair in pairs if saves(one, *pair) > saves(other, *pair)]
            self.assertIs(never_saves_more(one, other), not more, (one.swings, other.swings))
            found = saves_against(one, other)
            self.assertEqual(found is None, not more)
            if found is not None:
                self.assertIs(type(found), tuple)
                self.assertIs(is_saves_against(one, other, found), True)
            for pair in pairs[::3]:
                self.assertIs(is_saves_against(one, other, pair), pair in more)

    def test_years_of_one_sign(self):
        for year in (Year((6,)), Year((-6, -1))):
            for other in SOME:
                self.assertIs(never_saves_more(year, other), True)
            self.assertEqual((saves(year, 0, GREAT), least_second(year, 3, 0), least_second(year, 3, 1)), (0, 0, None))
            self.assertEqual((taken_from(year, (2, 0, 5)), idle_butts(year, (2, 0, 5))), ((0, 0, 0), (0, 1, 2)))
        self.assertEqual((run_over(Year((6,)), (2, 0, 5)), run_over(Year((-6,)), (2, 0, 5))), ((6, 6, 6), (0, 0, 0)))


class EdgesTest(CallCase, unittest.TestCase):
    def test_great_numbers(self):
        half = GREAT // 2
        year = Year(year_with((GREAT, (GREAT, GREAT - 1, 3))))
        self.assertEqual(taken_from(year, (half, 0, half)), (GREAT + 3, 0, GREAT - 1))
        self.assertEqual(run_over(year, (half, half)), (GREAT - 1, 0))
        self.assertEqual((saves(year, 3, GREAT), saves(year, GREAT - 1, 1), saves(year, GREAT, GREAT)), (2 * GREAT - 7, 1, 0))
        self.assertEqual([least_second(year, 3, number) for number in (1, 2, 3, 2 * GREAT - 7)], [1, 1, 2, GREAT - 3])
        self.assertIsNone(least_second(year, 3, 2 * GREAT - 6))
        # Just with one place for both butts one saves more.
        one, other = Year((GREAT, -GREAT)), Year((GREAT - 1, 1 - GREAT))
        found = saves_against(one, other)
        self.assertIs(is_saves_against(one, other, found), True)
        self.assertEqual((sum(found) >= GREAT, found[0] < GREAT), (True, True))
        self.assertIs(is_saves_against(one, other, (GREAT - 1, 1)), True)
        self.assertEqual((saves_against(other, one), levels_behind(one, (half, 7), (0, 7))), (None, [(half, 7), (0, 0)]))

    def test_things(self):
        self.assert_yes(is_butts, (), [(0,), (10 ** 60,), (3, 0, 0, 7), (5,) * 999, (1,)])
        wrong = [(), [0], [3, 1], (-1,), (3, -1), (3, True), (False,), (None,), ("1",), (3, (1,)), ((3,),), 3, "3", DEEP]
        self.assert_no(is_butts, (), wrong + [thing for thing in NO_NUMBERS if thing != (1,)])
        self.assert_yes(is_saves_against, (YEAR, EVEN), [(3, 1), (2, 2), (3, 10 ** 60)])
        wrong = [
            [3, 1], (3,), (3, 1, 0), (3, 1, 1), (3, -1), (-3, 9), (3, True), (3, 0), (4, 1), (10 ** 60, 1), ("3", 1), (3, None),
            ((3, 1),), ([3], [1]), "31", (), None, True, 3, DEEP,
        ]
        self.assert_no(is_saves_against, (YEAR, EVEN), wrong + list(NO_NUMBERS))

    def test_how_they_are_called(self):
        self.assert_told([(1, 2), (0, 2), (1, 2), (0, 0)], levels_behind, year=YEAR, butts=(1, 2), firsts=(0, 0))
        self.assert_told([(3,), (2,), (4,), (0,)], levels_behind, year=YEAR, butts=(5,), firsts=(0,))
        self.assert_told((2, 2, 1), taken_from, year=YEAR, butts=(1, 2, 5))
        self.assert_told((3, 1, 0), run_over, year=YEAR, butts=(1, 2, 5))
        self.assert_told((1, 3), idle_butts, year=YEAR, butts=(1, 0, 3, 1))
        self.assert_told((), idle_butts, year=YEAR, butts=(1, 1))
        self.assert_told(2, saves, year=YEAR, butt=1, further=2)
        self.assert_told(3, least_second, year=YEAR, butt=1, number=3)
        self.assert_told(None, least_second, year=YEAR, butt=1, number=4)
        self.assert_told(False, never_saves_more, one=YEAR, other=EVEN)
        self.assert_told(saves_against(YEAR, EVEN), saves_against, one=YEAR, other=EVEN)
        self.assertIs(is_saves_against(one=YEAR, other=EVEN, thing=(3, 1)), True)
        first, second = levels_behind(YEAR, (1, 2), (0, 0)), levels_behind(YEAR, (1, 2), (0, 0))
        first.append(None)
        self.assertEqual(len(second), 4)


if __name__ == "__main__":
    unittest.main()

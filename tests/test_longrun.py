"""Promise 8: what years buy and spill in the long run, and promise 2 for what tells it."""

import unittest

from allbutts.longrun import bought, corners, enough, least_butt, rests, saved_by, settles, spilled
from allbutts.parts import bought_by, level_on, spilled_by
from allbutts.strikes import swings
from allbutts.walks import level_after
from allbutts.years import Year
from tests.helpers import GREAT, CallCase, rows_to, walk_straight, year_with

EVEN, DRY = Year((3, -1, 2, -4)), Year((1, -3))
LONGER = [
    (5, -2, 3, -4, 1, -3), (4, 1, -6, 2, -1), (9, -1, 1, -1, 1, -9), (2, 2, -1, -1, 5, -8), (7, -2, 2, -3, 1), (1, 2, 3),
]
# Enough years for all small years and butts to come to rest.
MANY = 20


def years_from(runs, butt, first):
    """What many years buy and spill, the first of them at this level, and the level behind all."""
    level, found = first, []
    for _ in range(MANY):
        level, more, over = walk_straight(runs, butt, level)
        found.append((more, over))
    return found, level


class ExamplesTest(unittest.TestCase):
    def test_bought_and_spilled(self):
        self.assertEqual([bought(EVEN, butt) for butt in range(6)], [5, 3, 2, 1, 0, 0])
        self.assertEqual([spilled(EVEN, butt) for butt in range(6)], [5, 3, 2, 1, 0, 0])
        self.assertEqual([bought(DRY, butt) for butt in range(3)], [3, 2, 2])
        self.assertEqual([spilled(DRY, butt) for butt in range(3)], [1, 0, 0])

    def test_corners(self):
        told = corners(EVEN), corners(DRY), corners(Year((2, 5)))
        self.assertEqual(told, (((0, 5), (1, 3), (4, 0)), ((0, 3), (1, 2)), ((0, 0),)))
        self.assertEqual((enough(EVEN), enough(DRY)), (4, 1))

    def test_least_butts(self):
        self.assertEqual([least_butt(EVEN, most) for most in range(7)], [4, 3, 2, 1, 1, 0, 0])
        self.assertEqual((least_butt(DRY, 1), least_butt(DRY, 2)), (None, 1))
        self.assertEqual((saved_by(EVEN, 1, 2), saved_by(EVEN, 0, GREAT)), (2, 5))

    def test_rests(self):
        told = rests(EVEN, 2), rests(EVEN, 5), rests(DRY, 10), rests(Year((4, -1)), 10), rests(Year((2, 5)), 6)
        self.assertEqual(told, ((0, 0), (0, 1), (0, 0), (9, 9), (6, 6)))

    def test_settles(self):
        self.assertEqual([settles(EVEN, 5, first) for first in (0, 1, 2)], [0, 0, 1])
        self.assertEqual([settles(EVEN, 2, first) for first in (0, 1)], [0, 1])
        self.assertEqual([settles(DRY, 10, first) for first in (0, 1, 2, 3, 10)], [0, 1, 1, 2, 5])
        self.assertEqual(settles(Year((1, -2)), GREAT, GREAT), GREAT - 1)


class WalkedTest(unittest.TestCase):
    def test_whatever_the_first_level(self):
        for runs in list(rows_to(4, 2)) + list(rows_to(3, 3)) + LONGER:
            year = Year(runs)
            for butt in (0, 1, 2, 3, 5, 9):
                told = bought(year, butt), spilled(year, butt)
                for first in range(butt + 1):
                    found, _ = years_from(runs, butt, first)
                    self.assertEqual(told, found[-1], (runs, butt, first))
                    # Behind the last year that is another one all others are alike.
                    others = [place + 1 for place, pair in enumerate(found) if pair != told]
                    self.assertEqual(settles(year, butt, first), max(others, default=0), (runs, butt, first))

    def test_rests(self):
        for runs in list(rows_to(4, 2)) + list(rows_to(3, 3)) + LONGER:
            year = Year(runs)
            for butt in (0, 1, 2, 3, 5, 9):
                right = [level for level in range(butt + 1) if level_after(year, butt, level) == level]
                self.assertEqual(rests(year, butt), (right[0], right[-1]))
                self.assertEqual(right, list(range(right[0], right[-1] + 1)))

    def test_swings_tell_it(self):
        for runs in list(rows_to(4, 3)) + LONGER:
            year = Year(runs)
            for butt in range(8):
                beyond = sum(max(0, swing - butt) for swing in swings(year))
                self.assertEqual(bought(year, butt), year.wants + beyond)
                self.assertEqual(spilled(year, butt), year.spare + beyond)

    def test_far_years(self):
        for runs in LONGER:
            year, many = Year(runs), len(runs)
            for butt in (0, 1, 4, 10 ** 9):
                far = many * GREAT
                for call, told in ((bought_by, bought(year, butt)), (spilled_by, spilled(year, butt))):
                    self.assertEqual(call(year, butt, 0, far + many) - call(year, butt, 0, far), told)
                least, most = rests(year, butt)
                self.assertLessEqual(least, level_on(year, butt, 0, far))
                self.assertLessEqual(level_on(year, butt, 0, far), most)


class ButtsTest(unittest.TestCase):
    def test_corners(self):
        for runs in list(rows_to(4, 3)) + LONGER:
            year = Year(runs)
            told = corners(year)
            self.assertEqual([butt for butt, _ in told], sorted({0, *year.swings}))
            for butt, number in told:
                self.assertEqual(number, bought(year, butt))
            # Straight between two corners, level behind the last one.
            ahead = told[0]
            for corner in told[1:] + ((told[-1][0] + 7, told[-1][1]),):
                for butt in range(ahead[0], corner[0] + 1):
                    up, wide = corner[1] - ahead[1], corner[0] - ahead[0]
                    self.assertEqual((bought(year, butt) - ahead[1]) * wide, up * (butt - ahead[0]))
                ahead = corner

    def test_least_butts(self):
        for runs in list(rows_to(4, 3)) + LONGER:
            year = Year(runs)
            table = [bought(year, butt) for butt in range(25)]
            for most in range(15):
                right = [butt for butt, number in enumerate(table) if number <= most]
                self.assertEqual(least_butt(year, most), min(right, default=None))
            self.assertEqual(enough(year), table.index(year.wants))
            for butt in (0, 1, 3):
                for more in (0, 1, 2, 10):
                    self.assertEqual(saved_by(year, butt, more), table[butt] - table[butt + more])

    def test_years_of_one_sign(self):
        for runs in ((4,), (1, 2, 1), (-4,), (-1, -1, -2)):
            year, rain = Year(runs), runs[0] > 0
            self.assertEqual((corners(year), enough(year)), (((0, 0 if rain else 4),), 0))
            for butt in (0, 3, 9, GREAT):
                self.assertEqual((bought(year, butt), spilled(year, butt)), (0, 4) if rain else (4, 0))
                self.assertEqual(rests(year, butt), (butt, butt) if rain else (0, 0))
            self.assertEqual([least_butt(year, most) for most in (0, 3, 4)], [0, 0, 0] if rain else [None, None, 0])
            # Of 9 levels two whole years and a bit are on the way.
            told = [settles(year, 9, first) for first in (0, 1, 4, 5, 8, 9)]
            self.assertEqual(told, [3, 2, 2, 1, 1, 0] if rain else [0, 1, 1, 2, 2, 3])

    def test_a_butt_of_nothing(self):
        for runs in LONGER:
            year = Year(runs)
            self.assertEqual((bought(year, 0), spilled(year, 0)), (year.draws, year.rain))
            self.assertEqual((rests(year, 0), settles(year, 0, 0)), ((0, 0), 0))

    def test_great_numbers(self):
        year = Year(year_with((GREAT, (GREAT, GREAT - 1, 3))))
        self.assertEqual(bought(year, 0), 3 * GREAT + 2)
        self.assertEqual(bought(year, GREAT - 1), GREAT + 1)
        self.assertEqual((bought(year, GREAT), spilled(year, GREAT)), (GREAT, 0))
        self.assertEqual((enough(year), least_butt(year, GREAT), least_butt(year, GREAT - 1)), (GREAT, GREAT, None))
        self.assertEqual(least_butt(year, 2 * GREAT), GREAT - GREAT // 2)
        self.assertEqual(corners(year)[1:], ((3, 3 * GREAT - 7), (GREAT - 1, GREAT + 1), (GREAT, GREAT)))
        self.assertEqual(saved_by(year, 3, GREAT - 3), 2 * GREAT - 7)

    def test_great_ways_to_rest(self):
        wet = Year((2, -1))
        self.assertEqual(rests(wet, GREAT), (GREAT - 1, GREAT - 1))
        self.assertEqual([settles(wet, GREAT, first) for first in (0, 1, GREAT - 1, GREAT)], [GREAT - 1, GREAT - 2, 0, 1])
        # By 3 each year, and less on the last one.
        self.assertEqual(settles(Year((-3,)), 10 ** 29, 10 ** 29), (10 ** 29 + 2) // 3)
        self.assertEqual(rests(Year((5, -5)), GREAT), (0, GREAT - 5))
        told = [settles(Year((5, -5)), GREAT, first) for first in (0, GREAT - 5, GREAT - 4, GREAT)]
        self.assertEqual(told, [0, 0, 1, 1])


class CallsTest(CallCase, unittest.TestCase):
    def test_how_they_are_called(self):
        self.assert_told(3, bought, year=EVEN, butt=1)
        self.assert_told(1, spilled, year=DRY, butt=0)
        self.assert_told(((0, 5), (1, 3), (4, 0)), corners, year=EVEN)
        self.assert_told(1, least_butt, year=EVEN, most=4)
        self.assert_told(None, least_butt, year=DRY, most=1)
        self.assert_told(4, enough, year=EVEN)
        self.assert_told(2, saved_by, year=EVEN, butt=1, more=2)
        self.assert_told((0, 1), rests, year=EVEN, butt=5)
        self.assert_told(5, settles, year=DRY, butt=10, first=10)


if __name__ == "__main__":
    unittest.main()

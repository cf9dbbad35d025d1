"""Promise 5: years walked run by run, and promise 2 for what walks them."""

import unittest

from allbutts.walks import bought_in, is_level, level_after, levels, spilled_in, walk_lines, walked
from allbutts.years import Year
from tests.helpers import DEEP, GREAT, NO_NUMBERS, CallCase, rows_to, walk_straight

YEAR = Year((3, -1, 2, -4))


class ExamplesTest(unittest.TestCase):
    def test_walked(self):
        self.assertEqual(walked(YEAR, 1, 0), [(1, 0, 2), (0, 0, 0), (1, 0, 1), (0, 3, 0)])
        self.assertEqual((levels(YEAR, 4, 1), level_after(YEAR, 4, 1)), ([4, 3, 4, 0], 0))

    def test_bought_and_spilled(self):
        told = bought_in(YEAR, 1, 0), spilled_in(YEAR, 1, 0), bought_in(YEAR, 4, 1), spilled_in(YEAR, 4, 1)
        self.assertEqual(told, (3, 3, 0, 1))
        self.assertEqual(bought_in(YEAR, 0, 0), 5)

    def test_lines(self):
        self.assertEqual(walk_lines(YEAR, 1, 0), [
            "+3: level 1, spilled 2", "-1: level 0", "+2: level 1, spilled 1", "-4: level 0, bought 3",
        ])

    def test_levels(self):
        told = is_level(4, 4), is_level(4, 5), is_level(4, -1), is_level(4, True), is_level(0, 0)
        self.assertEqual(told, (True, False, False, False, True))


class WalksTest(CallCase, unittest.TestCase):
    def test_each_run_does_what_the_document_says(self):
        for runs in rows_to(3, 3):
            year = Year(runs)
            for butt in range(5):
                for first in range(butt + 1):
                    rows, level = [], first
                    for run in runs:
                        rows.append(walk_straight([run], butt, level))
                        level = rows[-1][0]
                    self.assertEqual(walked(year, butt, first), rows)
                    self.assertEqual(levels(year, butt, first), [row[0] for row in rows])
                    self.assertEqual(level_after(year, butt, first), level)
                    self.assertEqual(bought_in(year, butt, first), sum(row[1] for row in rows))
                    self.assertEqual(spilled_in(year, butt, first), sum(row[2] for row in rows))

    def test_no_water_is_lost(self):
        for runs in rows_to(4, 2):
            year = Year(runs)
            for butt, first in ((0, 0), (1, 0), (1, 1), (3, 2), (9, 5)):
                come = first + year.rain + bought_in(year, butt, first)
                self.assertEqual(come, level_after(year, butt, first) + year.draws + spilled_in(year, butt, first))

    def test_a_butt_of_nothing(self):
        self.assertEqual(walked(YEAR, 0, 0), [(0, 0, 3), (0, 1, 0), (0, 0, 2), (0, 4, 0)])
        self.assertEqual((bought_in(YEAR, 0, 0), spilled_in(YEAR, 0, 0), level_after(YEAR, 0, 0)), (5, 5, 0))

    def test_levels_at_both_ends(self):
        self.assertEqual(walked(Year((2, -2)), 5, 3), [(5, 0, 0), (3, 0, 0)])
        self.assertEqual(walked(Year((2, -2)), 5, 5), [(5, 0, 2), (3, 0, 0)])
        self.assertEqual(walked(Year((-2, 2)), 5, 2), [(0, 0, 0), (2, 0, 0)])
        self.assertEqual(walked(Year((-2, 2)), 5, 0), [(0, 2, 0), (2, 0, 0)])

    def test_great_numbers(self):
        year = Year((GREAT, GREAT, -GREAT))
        self.assertEqual(walked(year, GREAT, 1), [(GREAT, 0, 1), (GREAT, 0, GREAT), (0, 0, 0)])
        self.assertEqual(spilled_in(year, GREAT, 1), GREAT + 1)
        self.assertEqual(bought_in(Year((-GREAT,) * 40), 3, 2), 40 * GREAT - 2)

    def test_lines_of_any_kind(self):
        self.assertEqual(walk_lines(Year((-2, 3)), 3, 2), ["-2: level 0", "+3: level 3"])
        self.assertEqual(walk_lines(Year((-2, 3)), 2, 1), ["-2: level 0, bought 1", "+3: level 2, spilled 1"])
        self.assertEqual(walk_lines(Year((GREAT,)), 0, 0), [f"+{GREAT}: level 0, spilled {GREAT}"])

    def test_how_they_are_called(self):
        self.assert_told([(1, 0, 2), (0, 0, 0), (1, 0, 1), (0, 3, 0)], walked, year=YEAR, butt=1, first=0)
        self.assert_told([4, 3, 4, 0], levels, year=YEAR, butt=4, first=1)
        self.assert_told(0, level_after, year=YEAR, butt=4, first=1)
        self.assert_told(3, bought_in, year=YEAR, butt=1, first=0)
        self.assert_told(3, spilled_in, year=YEAR, butt=1, first=0)
        self.assert_told(["+7: level 2, spilled 6"], walk_lines, year=Year((7,)), butt=2, first=1)

    def test_what_is_no_level(self):
        self.assert_yes(is_level, (4,), (0, 1, 3, 4))
        self.assert_yes(is_level, (10 ** 40,), (0, GREAT, 10 ** 40))
        self.assert_no(is_level, (4,), (-1, 5, -GREAT, GREAT, DEEP) + NO_NUMBERS)
        self.assert_no(is_level, (0,), (1, -1, False) + NO_NUMBERS)
        self.assertIs(is_level(butt=4, thing=2), True)


if __name__ == "__main__":
    unittest.main()

"""Promise 6: what rows of runs do from all levels at once, and promise 2 for what tells it."""

import itertools
import unittest

from allbutts.parts import (
    bought_by, is_part, least_first, level_on, most_first, part_of, runs_for, spilled_by, then, through, times,
)
from allbutts.years import Year, is_run
from tests.helpers import DEEP, GREAT, NO_NUMBERS, CallCase, rows_to, walk_straight

YEAR = Year((3, -1, 2, -4))


def all_parts(butt, most):
    """All parts for the butt with more and over to this number, straight from the document."""
    sizes, rests = range(butt + 1), range(most + 1)
    found = []
    for need, room, low, more, over in itertools.product(sizes, sizes, sizes, rests, rests):
        if need <= room and low + room - need <= butt and (need == room or more == over == 0):
            found.append((need, room, low, more, over))
    return found


def through_straight(part, level):
    """What a part says of a level, straight from the document."""
    need, room, low, more, over = part
    middle = sorted((need, level, room))[1]
    return low + middle - need, more + max(0, need - level), over + max(0, level - room)


def deeds(runs, butt):
    """What a row does from all levels."""
    return [walk_straight(runs, butt, level) for level in range(butt + 1)]


class ExamplesTest(unittest.TestCase):
    def test_parts(self):
        self.assertEqual((part_of((-2, 1), 5), part_of((), 5)), ((2, 5, 1, 0, 0), (0, 5, 0, 0, 0)))
        self.assertEqual((through((2, 5, 1, 0, 0), 4), through((2, 5, 1, 0, 0), 1)), ((3, 0, 0), (1, 1, 0)))
        self.assertEqual((part_of(YEAR.runs, 4), part_of(YEAR.runs, 1)), ((0, 0, 0, 0, 0), (0, 0, 0, 3, 3)))

    def test_put_together(self):
        self.assertEqual(then(part_of((-2, 1), 5), part_of((4,), 5)), (2, 2, 5, 0, 0))
        self.assertEqual((part_of((-2, 1, 4), 5), through((2, 2, 5, 0, 0), 5)), ((2, 2, 5, 0, 0), (5, 0, 3)))
        self.assertEqual(times(part_of(YEAR.runs, 1), GREAT), (0, 0, 0, 3 * GREAT, 3 * GREAT))

    def test_kinds(self):
        things = (2, 5, 1, 0, 0), (2, 5, 3, 0, 0), (2, 5, 1, 1, 0), (2, 2, 5, 7, 0), (2, 2, 5, 7)
        self.assertEqual([is_part(5, thing) for thing in things], [True, False, False, True, False])

    def test_rows_for_parts(self):
        self.assertEqual(part_of(runs_for(5, (2, 5, 1, 0, 0)), 5), (2, 5, 1, 0, 0))
        self.assertEqual(part_of(runs_for(5, (2, 2, 4, 7, 9)), 5), (2, 2, 4, 7, 9))
        self.assertEqual(runs_for(5, (0, 5, 0, 0, 0)), ())

    def test_years(self):
        told = least_first(Year((-2, 1)), 5), most_first(Year((-2, 1)), 5), least_first(YEAR, 1), most_first(YEAR, 4)
        self.assertEqual(told, (2, 5, None, 0))
        self.assertEqual((level_on(YEAR, 1, 0, 5), bought_by(YEAR, 1, 0, 4), spilled_by(YEAR, 1, 0, 5)), (1, 3, 5))
        self.assertEqual((bought_by(YEAR, 1, 0, GREAT), bought_by(YEAR, 1, 0, 0)), (75 * 10 ** 28, 0))


class GuaranteeTest(unittest.TestCase):
    def test_each_row_does_what_its_part_says(self):
        for runs in [()] + list(rows_to(4, 3)):
            for butt in (0, 1, 2, 4):
                part = part_of(runs, butt)
                self.assertIs(is_part(butt, part), True)
                told = [through(part, level) for level in range(butt + 1)]
                self.assertEqual(told, deeds(runs, butt), (runs, butt))

    def test_just_one_part(self):
        for butt in range(5):
            parts = all_parts(butt, 2)
            told = {tuple(through(part, level) for level in range(butt + 1)) for part in parts}
            self.assertEqual(len(told), len(parts))

    def test_each_part_is_that_of_a_row(self):
        for butt in range(6):
            for part in all_parts(butt, 2):
                runs = runs_for(butt, part)
                self.assertIs(type(runs), tuple)
                self.assertLessEqual(len(runs), 5)
                self.assertTrue(all(is_run(run) for run in runs))
                self.assertEqual(part_of(runs, butt), part)
                self.assertEqual(deeds(runs, butt), [through_straight(part, level) for level in range(butt + 1)])

    def test_great_parts(self):
        parts = [
            (0, GREAT, 0, 0, 0), (1, GREAT, 1, 0, 0), (0, GREAT - 1, 0, 0, 0), (7, 9, GREAT - 2, 0, 0),
            (GREAT, GREAT, GREAT, GREAT, GREAT), (0, 0, 0, GREAT, 0), (5, 5, 8, 0, GREAT), (GREAT, GREAT, 0, 0, 0),
        ]
        for part in parts:
            runs = runs_for(GREAT, part)
            self.assertLessEqual(len(runs), 5)
            self.assertEqual(part_of(runs, GREAT), part)


class TogetherTest(unittest.TestCase):
    def test_then(self):
        for butt in range(4):
            parts = all_parts(butt, 1)
            for one, other in itertools.product(parts, repeat=2):
                both = then(one, other)
                self.assertIs(is_part(butt, both), True, (butt, one, other))
                for level in range(butt + 1):
                    behind, bought, spilled = through_straight(one, level)
                    last, more, over = through_straight(other, behind)
                    self.assertEqual(through(both, level), (last, bought + more, spilled + over))

    def test_then_of_rows(self):
        for runs in rows_to(4, 2):
            for cut in range(len(runs) + 1):
                both = then(part_of(runs[:cut], 3), part_of(runs[cut:], 3))
                self.assertEqual(both, part_of(runs, 3))

    def test_times(self):
        for part in all_parts(3, 1):
            whole = part
            for number in range(1, 12):
                self.assertEqual(times(part, number), whole)
                whole = then(whole, part)

    def test_times_of_great_numbers(self):
        for part in all_parts(3, 1) + [(1, 10 ** 20, 0, 0, 0), (0, 10 ** 40 - 3, 3, 0, 0)]:
            self.assertEqual(times(part, 1), part)
            self.assertEqual(times(part, GREAT), times(times(part, 10 ** 18), 10 ** 12))
            self.assertEqual(times(part, GREAT + 1), then(times(part, GREAT), part))
        # Each year takes 1 out of what is left.
        self.assertEqual(times((1, 10 ** 20, 0, 0, 0), 10 ** 19), (10 ** 19, 10 ** 20, 0, 0, 0))
        self.assertEqual(times((1, 10 ** 20, 0, 0, 0), GREAT), (10 ** 20, 10 ** 20, 0, GREAT - 10 ** 20, 0))


class YearsTest(unittest.TestCase):
    def test_first_levels(self):
        for runs in rows_to(4, 3):
            year = Year(runs)
            for butt in (0, 1, 3, 7):
                told = deeds(runs, butt)
                dry = [level for level in range(butt + 1) if told[level][1] == 0]
                wet = [level for level in range(butt + 1) if told[level][2] == 0]
                self.assertEqual(least_first(year, butt), min(dry, default=None))
                self.assertEqual(most_first(year, butt), max(wet, default=None))

    def test_on_and_on(self):
        for runs in rows_to(3, 2):
            year = Year(runs)
            for butt, first in ((0, 0), (1, 0), (1, 1), (3, 2), (5, 5)):
                for number in range(3 * len(runs) + 2):
                    walk = walk_straight((runs * 4)[:number], butt, first)
                    told = (level_on(year, butt, first, number), bought_by(year, butt, first, number),
                            spilled_by(year, butt, first, number))
                    self.assertEqual(told, walk, (runs, butt, first, number))

    def test_great_numbers_of_runs(self):
        for runs in ((3, -1, 2, -4), (1, -3), (4, -1, -1), (5, -5), (2,), (-2,)):
            year, many = Year(runs), len(runs)
            for butt, first in ((0, 0), (1, 1), (4, 2), (10, 7)):
                # Behind 30 years each one is as the one ahead of it.
                level, bought, spilled = walk_straight(runs * 30, butt, first)
                again, each, lost = walk_straight(runs, butt, level)
                self.assertEqual(again, level)
                for rest in range(many):
                    number = many * 10 ** 29 + rest
                    last, more, over = walk_straight(runs[:rest], butt, level)
                    years = 10 ** 29 - 30
                    self.assertEqual(level_on(year, butt, first, number), last)
                    self.assertEqual(bought_by(year, butt, first, number), bought + years * each + more)
                    self.assertEqual(spilled_by(year, butt, first, number), spilled + years * lost + over)

    def test_great_butts(self):
        year = Year((1, -2))
        self.assertEqual(level_on(year, GREAT, GREAT, 2 * 10 ** 29), GREAT - 10 ** 29 - 1)
        self.assertEqual(bought_by(year, GREAT, GREAT, GREAT), 0)
        self.assertEqual(spilled_by(year, GREAT, GREAT, GREAT), 1)
        self.assertEqual(level_on(year, GREAT, GREAT, 4 * GREAT), 0)


class KindsTest(CallCase, unittest.TestCase):
    def test_parts_and_nothing_else(self):
        for butt in range(4):
            right = set(all_parts(butt, 1))
            for thing in itertools.product(range(-1, butt + 2), repeat=3):
                for rests in itertools.product(range(-1, 2), repeat=2):
                    self.assertIs(is_part(butt, thing + rests), thing + rests in right, (butt, thing + rests))

    def test_other_things(self):
        self.assert_yes(is_part, (5,), ((2, 5, 1, 0, 0), (2, 2, 5, 10 ** 50, 10 ** 50)))
        self.assert_yes(is_part, (10 ** 50,), ((2, 10 ** 50, 1, 0, 0),))
        wrong = [
            [2, 5, 1, 0, 0], ((2, 5, 1, 0, 0),), (2, 5, 1, 0), (2, 5, 1, 0, 0, 0), "25100", (0,) * 5000, DEEP,
        ]
        self.assert_no(is_part, (5,), wrong + list(NO_NUMBERS))
        for place, odd in itertools.product(range(5), (*NO_NUMBERS, DEEP)):
            thing = [0, 0, 0, 0, 0]
            thing[place] = odd
            self.assert_no(is_part, (5,), [tuple(thing)])

    def test_how_they_are_called(self):
        self.assert_told((2, 5, 1, 0, 0), part_of, runs=(-2, 1), butt=5)
        self.assert_told((3, 0, 0), through, part=(2, 5, 1, 0, 0), level=4)
        self.assert_told((2, 2, 5, 0, 0), then, one=(2, 5, 1, 0, 0), other=(0, 1, 4, 0, 0))
        self.assert_told((0, 0, 0, 9, 9), times, part=(0, 0, 0, 3, 3), number=3)
        self.assert_told((0, 0, 0, 3, 3), times, part=(0, 0, 0, 3, 3), number=1)
        self.assert_told((), runs_for, butt=5, part=(0, 5, 0, 0, 0))
        self.assert_told(runs_for(5, (2, 2, 4, 7, 9)), runs_for, butt=5, part=(2, 2, 4, 7, 9))
        self.assert_told(None, least_first, year=YEAR, butt=1)
        self.assert_told(0, most_first, year=YEAR, butt=4)
        self.assert_told(1, level_on, year=YEAR, butt=1, first=0, number=5)
        self.assert_told(3, bought_by, year=YEAR, butt=1, first=0, number=4)
        self.assert_told(5, spilled_by, year=YEAR, butt=1, first=0, number=5)


if __name__ == "__main__":
    unittest.main()

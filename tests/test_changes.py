"""Promise 15: runs that come, go and change their places, the class Watch, and promise 2 for these."""

import random
import unittest

from allbutts.changes import (
    Watch, best_for_all, best_place, left_out, parted, passed, passes, put_in, worst_for_all,
)
from allbutts.errors import BadRun, NoPlace, NothingDone
from allbutts.lead import most_more, never_more
from allbutts.strikes import swings
from allbutts.years import Year
from tests.helpers import GREAT, CallCase, ErrorCase, rows_to, walk_straight

YEAR = Year((5, -3, 1, -3))
SMALL = list(rows_to(3, 2))
LONGER = [
    (5, -3, 1, -3), (3, -1, 2, -4), (5, -2, 3, -4, 1, -3), (4, 1, -6, 2, -1), (9, -1, 1, -1, 1, -9), (2, 2, -1, -1, 5, -8),
    (1, 2, 3), (-1, -5), (3, 3, -3, -3), (6, -6, 1, -1, 6, -6),
]
# No swing of these years, nor of those with one run more, is greater.
LAST = 14


def straight(runs, butt):
    """What the last one of many years buys, walked run by run."""
    level = walk_straight(runs * 30, butt, 0)[0]
    return walk_straight(runs, butt, level)[1]


def with_run(runs, place, run):
    """The runs with one more, straight from the document."""
    return tuple(list(runs[:place]) + [run] + list(runs[place:]))


class ExamplesTest(ErrorCase, unittest.TestCase):
    def test_changes(self):
        self.assertEqual((put_in(YEAR, 2, 2).runs, put_in(YEAR, 4, -1).runs), ((5, -3, 2, 1, -3), (5, -3, 1, -3, -1)))
        self.assertEqual((left_out(YEAR, 1).runs, passed(YEAR, 0).runs), ((5, 1, -3), (-3, 5, 1, -3)))
        self.assertEqual((passed(YEAR, 3).runs, parted(YEAR, 1, 2).runs), ((-3, -3, 1, 5), (5, -2, -1, 1, -3)))

    def test_places(self):
        told = [swings(put_in(YEAR, place, 2)) for place in range(5)]
        self.assertEqual(told, [(5, 1), (5, 1), (3, 3), (3, 3), (5, 1)])
        self.assertEqual([best_place(YEAR, 2, butt) for butt in range(4)], [0, 0, 2, 2])
        self.assertEqual((best_for_all(YEAR, 2), worst_for_all(YEAR, 2)), (2, 0))
        square = Year((3, 3, -3, -3))
        self.assertEqual((passes(YEAR, 2), passes(square, 2), passes(square, 6)), ([], [1, 3], []))

    def test_a_watch(self):
        watch = Watch(YEAR, Year((5, -5)))
        self.assertEqual((watch.put("one", 2, 2), watch.drop("other", 1), watch.exchange("one", 0)), (1, 6, 6))
        self.assertEqual((watch.leads, len(watch)), ((1, 1, 6, 6), 3))
        self.assertEqual((watch.back(), watch.one.runs, watch.other.runs), (None, (5, -3, 2, 1, -3), (5,)))
        self.assertEqual(watch.leads, (1, 1, 6))
        mate = watch.twin()
        self.assertEqual((mate.back(), watch == mate, len(watch), len(mate)), (None, False, 2, 1))
        self.assertEqual((mate.drop("other", 1), watch == mate), (6, True))
        self.assert_raised(NoPlace, {"number": 2}, watch.put, "other", 2, 4)
        self.assert_raised(BadRun, {"place": 3}, watch.put, "one", 3, 0)


class ChangesTest(ErrorCase, unittest.TestCase):
    def test_put_in(self):
        for runs in SMALL + LONGER:
            year = Year(runs)
            for place in range(len(runs) + 1):
                for run in (7, -7):
                    self.assertEqual(put_in(year, place, run).runs, with_run(runs, place, run))
                self.assert_raised(BadRun, {"place": place}, put_in, year, place, 0)
            for place in (-1, -len(runs), len(runs) + 1, GREAT, -GREAT):
                # The place is looked at ahead of the run.
                for run in (1, 0):
                    self.assert_raised(NoPlace, {"number": place}, put_in, year, place, run)
                    self.assert_raised(NoPlace, {"number": place}, put_in, year=year, place=place, run=run)

    def test_left_out(self):
        for runs in SMALL + LONGER:
            if len(runs) > 1:
                for place in range(len(runs)):
                    told = left_out(Year(runs), place)
                    self.assertEqual((told.runs, put_in(told, place, runs[place])), (runs[:place] + runs[place + 1:], Year(runs)))
            self.assert_no_places(left_out, runs)

    def assert_no_places(self, call, runs, *rest):
        for place in (-1, -len(runs), len(runs), len(runs) + 1, GREAT, -GREAT):
            self.assert_raised(NoPlace, {"number": place}, call, Year(runs), place, *rest)

    def test_passed(self):
        for runs in SMALL + LONGER:
            for place in range(len(runs)):
                right = list(runs)
                behind = place + 1 if place + 1 < len(runs) else 0
                right[place], right[behind] = runs[behind], runs[place]
                told = passed(Year(runs), place)
                self.assertEqual(told.runs, tuple(right))
                self.assertEqual(passed(told, place), Year(runs))
            self.assert_no_places(passed, runs)
        self.assertEqual((passed(Year((7,)), 0).runs, passed(Year((7, -8)), 1).runs), ((7,), (-8, 7)))

    def test_parted(self):
        for runs in SMALL + LONGER:
            for place, run in enumerate(runs):
                sign = 1 if run > 0 else -1
                for first in range(1, abs(run)):
                    told = parted(Year(runs), place, first)
                    two = (sign * first, sign * (abs(run) - first))
                    self.assertEqual(told.runs, runs[:place] + two + runs[place + 1:])
                    self.assertEqual(told.heap, Year(runs).heap)
            self.assert_no_places(parted, runs, 1)
        self.assertEqual(parted(Year((GREAT, -GREAT)), 1, 1).runs, (GREAT, -1, 1 - GREAT))


class PlacesTest(unittest.TestCase):
    def test_best_place(self):
        for runs in LONGER + SMALL[::7]:
            for run in (2, -2, 6, -7):
                for butt in (0, 1, 2, 3, 5, LAST):
                    table = [straight(with_run(runs, place, run), butt) for place in range(len(runs) + 1)]
                    self.assertEqual(best_place(Year(runs), run, butt), table.index(min(table)), (runs, run, butt))

    def test_for_all(self):
        for runs in LONGER + SMALL[::3]:
            for run in (1, -1, 3, -4):
                rows = [with_run(runs, place, run) for place in range(len(runs) + 1)]
                tables = [[straight(row, butt) for butt in range(LAST + 1)] for row in rows]
                least = [min(numbers) for numbers in zip(*tables)]
                most = [max(numbers) for numbers in zip(*tables)]
                best = tables.index(least) if least in tables else None
                worst = tables.index(most) if most in tables else None
                told = best_for_all(Year(runs), run), worst_for_all(Year(runs), run)
                self.assertEqual(told, (best, worst), (runs, run))

    def test_there_may_be_no_place_for_all(self):
        found = set()
        chance = random.Random(5)
        for _ in range(600):
            year = Year(chance.choice((1, -1)) * chance.randrange(1, 10) for _ in range(7))
            run = chance.choice((1, -1)) * chance.randrange(1, 10)
            years = [put_in(year, place, run) for place in range(8)]
            least = [place for place in range(8) if all(never_more(years[place], other) for other in years)]
            most = [place for place in range(8) if all(never_more(other, years[place]) for other in years)]
            self.assertEqual(best_for_all(year, run), min(least, default=None))
            self.assertEqual(worst_for_all(year, run), min(most, default=None))
            found.add(best_for_all(year, run) is None)
        self.assertEqual(found, {True, False})

    def test_passes(self):
        for runs in LONGER + SMALL:
            for butt in (0, 1, 2, 3, 5, LAST):
                right = []
                for place in range(len(runs)):
                    if straight(passed(Year(runs), place).runs, butt) < straight(runs, butt):
                        right.append(place)
                self.assertEqual(passes(Year(runs), butt), right, (runs, butt))

    def test_years_of_one_run(self):
        self.assertEqual((best_place(Year((3,)), -5, 1), best_for_all(Year((3,)), -5), worst_for_all(Year((3,)), -5)), (0, 0, 0))
        self.assertEqual(passes(Year((3,)), 1), [])

    def test_great_runs(self):
        year = Year((GREAT, -GREAT))
        self.assertEqual(best_place(year, GREAT, GREAT), 0)
        two = Year((GREAT, -GREAT, -GREAT))
        self.assertEqual((best_for_all(two, GREAT), worst_for_all(two, GREAT)), (2, 0))
        self.assertEqual((best_place(two, GREAT, GREAT), best_place(two, GREAT, 2 * GREAT)), (2, 0))


class CallsTest(CallCase, unittest.TestCase):
    def test_how_they_are_called(self):
        self.assert_told(2, best_place, year=YEAR, run=2, butt=3)
        self.assert_told(2, best_for_all, year=YEAR, run=2)
        self.assert_told(0, worst_for_all, year=YEAR, run=2)
        self.assert_told([1, 3], passes, year=Year((3, 3, -3, -3)), butt=2)
        self.assertEqual(put_in(year=YEAR, place=4, run=-1), put_in(YEAR, 4, -1))
        self.assertEqual(left_out(year=YEAR, place=1), left_out(YEAR, 1))
        self.assertEqual(passed(year=YEAR, place=3), passed(YEAR, 3))
        self.assertEqual(parted(year=YEAR, place=1, first=2), parted(YEAR, 1, 2))
        for told in (put_in(YEAR, 0, 1), left_out(YEAR, 0), passed(YEAR, 0), parted(YEAR, 0, 1)):
            self.assertIs(type(told), Year)
        self.assertEqual(YEAR.runs, (5, -3, 1, -3))


class WatchTest(ErrorCase, unittest.TestCase):
    def test_at_the_beginning(self):
        other = Year((5, -5))
        watch = Watch(one=YEAR, other=other)
        self.assertEqual((watch.one, watch.other, watch.leads, len(watch)), (YEAR, other, (most_more(YEAR, other),), 0))
        self.assert_raised(NothingDone, {}, watch.back)

    def test_many_deeds(self):
        chance = random.Random(3)
        for _ in range(30):
            watch, states = Watch(YEAR, Year((5, -5, 2))), []
            states.append((YEAR.runs, (5, -5, 2)))
            for _ in range(40):
                self.assert_state(watch, states)
                self.some_deed(chance, watch, states)
            while len(states) > 1:
                self.assert_state(watch, states)
                self.assertIsNone(watch.back())
                states.pop()
            self.assert_state(watch, states)
            self.assert_raised(NothingDone, {}, watch.back)

    def assert_state(self, watch, states):
        self.assertEqual((watch.one.runs, watch.other.runs, len(watch)), (*states[-1], len(states) - 1))
        self.assertEqual(watch.leads, tuple(most_more(Year(one), Year(other)) for one, other in states))
        self.assertEqual(watch, Watch(Year(states[-1][0]), Year(states[-1][1])))

    def some_deed(self, chance, watch, states):
        """Does something at a place that may not be there, and notes how the runs must be then."""
        side, place, run = chance.choice(("one", "other")), chance.randrange(-1, 8), chance.choice((1, -2, 3, -4))
        runs = dict(zip(("one", "other"), states[-1]))
        old, word = runs[side], chance.choice(("put", "drop", "exchange", "back"))
        if word == "back":
            if len(states) > 1:
                self.assertIsNone(watch.back())
                states.pop()
            return
        if word == "drop" and len(old) == 1:
            return
        rest = (run,) if word == "put" else ()
        if not 0 <= place < len(old) + len(rest):
            self.assert_raised(NoPlace, {"number": place}, getattr(watch, word), side, place, *rest)
            return
        change = {"put": put_in, "drop": left_out, "exchange": passed}[word]
        runs[side] = change(Year(old), place, *rest).runs
        states.append((runs["one"], runs["other"]))
        told = getattr(watch, word)(side, place, *rest)
        self.assertEqual(told, most_more(Year(runs["one"]), Year(runs["other"])))

    def test_what_raises_does_nothing(self):
        watch = Watch(YEAR, Year((5, -5)))
        watch.put("other", 0, -1)
        for side, many in (("one", 4), ("other", 3)):
            for place in (-1, many, many + 1, GREAT):
                self.assert_raised(NoPlace, {"number": place}, watch.drop, side, place)
                self.assert_raised(NoPlace, {"number": place}, watch.exchange, side=side, place=place)
            for place in (-1, many + 1, -GREAT):
                self.assert_raised(NoPlace, {"number": place}, watch.put, side, place, 0)
            self.assert_raised(BadRun, {"place": many}, watch.put, side=side, place=many, run=0)
        self.assertEqual((watch.one.runs, watch.other.runs, len(watch)), (YEAR.runs, (-1, 5, -5), 1))
        self.assertEqual(watch.leads, (1, most_more(YEAR, Year((-1, 5, -5)))))

    def test_a_deed_that_changes_nothing_is_one(self):
        watch = Watch(Year((3,)), Year((2, 2)))
        self.assertEqual((watch.exchange("one", 0), watch.exchange("other", 1), len(watch)), (0, 0, 2))
        self.assertEqual((watch.back(), watch.back(), watch.leads), (None, None, (0,)))

    def test_equal_ones(self):
        one, other = Watch(YEAR, Year((5, -5))), Watch(YEAR, Year((5, -5)))
        self.assertTrue(one == other and not one != other)
        one.put("one", 0, 1)
        self.assertTrue(one != other and not one == other)
        one.drop("one", 0)
        self.assertEqual((one, len(one)), (other, 2))
        self.assertNotEqual(Watch(YEAR, Year((5, -5))), Watch(Year((5, -5)), YEAR))
        for thing in (YEAR, None, 0, (YEAR, Year((5, -5))), "one"):
            self.assertFalse(one == thing)
            self.assertTrue(one != thing)

    def test_twins(self):
        watch = Watch(YEAR, Year((5, -5)))
        watch.put("one", 0, 1)
        watch.put("other", 0, 1)
        mate = watch.twin()
        self.assertEqual((mate, mate.leads, len(mate)), (watch, watch.leads, 2))
        watch.back()
        self.assertEqual((len(mate), mate.other.runs, len(watch)), (2, (1, 5, -5), 1))
        mate.exchange("one", 0)
        mate.back()
        mate.back()
        mate.back()
        self.assert_raised(NothingDone, {}, mate.back)
        self.assertEqual((watch.one.runs, len(watch), len(watch.leads)), ((1, 5, -3, 1, -3), 1, 2))

    def test_what_can_not_be_done_with_it(self):
        watch = Watch(YEAR, YEAR)
        for name in ("one", "other", "leads"):
            with self.assertRaises(AttributeError):
                setattr(watch, name, None)
        with self.assertRaises(TypeError):
            iter(watch)
        with self.assertRaises(TypeError):
            list(watch)

    def test_called_by_names(self):
        one, other = Watch(YEAR, YEAR), Watch(YEAR, YEAR)
        self.assertEqual(one.put(side="other", place=1, run=-9), other.put("other", 1, -9))
        self.assertEqual(one.drop(side="one", place=3), other.drop("one", 3))
        self.assertEqual(one.exchange(side="other", place=4), other.exchange("other", 4))
        self.assertEqual((one.leads, one), (other.leads, other))

    def test_thirty_deeds(self):
        watch = Watch(Year((1,)), Year((-1,)))
        for place in range(30):
            watch.put(*(("one", place, 1) if place < 15 else ("other", 0, -1)))
        self.assertEqual((len(watch), len(watch.leads), watch.leads[-1]), (30, 31, -16))
        for _ in range(30):
            watch.back()
        self.assertEqual((watch.one.runs, watch.other.runs, watch.leads), ((1,), (-1,), (-1,)))


if __name__ == "__main__":
    unittest.main()

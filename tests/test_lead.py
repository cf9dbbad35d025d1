"""Promise 9: which of two years buys more with which butts, and promise 2 for what tells it."""

import itertools
import unittest

from allbutts.heaps import heap_compare, heap_within, most_over
from allbutts.lead import (
    against, alike, compare, is_against, most_more, most_more_butt, most_spilled_more, never_more, never_more_between,
    never_spills_more, spans_against,
)
from allbutts.longrun import bought, spilled
from allbutts.steps import steps
from allbutts.texts import lines_of
from allbutts.years import Year, backwards, begun_at, opposite
from tests.helpers import DEEP, GREAT, NO_NUMBERS, CallCase, rows_to, walk_straight, year_with

FIRST, SECOND, LACKING = Year((3, -1, 2, -4)), Year((2, -3, 3, -2)), Year((1, -3))
SMALL = [Year(runs) for runs in rows_to(3, 2)]
SOME = SMALL[::5] + [FIRST, SECOND, LACKING] + [Year(year_with(heap)) for heap in (
    (1, ()), (9, ()), (0, (9,)), (0, (5, 5)), (1, (8,)), (0, (4, 4, 4)), (2, (7, 1)), (0, (3, 3, 3, 3)), (5, (1,)),
    (0, (9, 1, 1, 1)), (0, (6, 6, 1)), (1, (5, 4, 3, 2, 1)), (0, (2,) * 7), (4, (3, 2)), (3, (9, 3, 3)), (0, (9, 5, 5)),
)]
# No swing of these years is greater, so behind this butt nothing changes.
LAST = 10


def differences(one, other, call=bought):
    """By how much one has more than other, for all butts to LAST."""
    return [call(one, butt) - call(other, butt) for butt in range(LAST + 1)]


def pairs():
    return [*itertools.product(SMALL, repeat=2), *itertools.product(SOME, repeat=2)]


class ExamplesTest(unittest.TestCase):
    def test_never_more(self):
        self.assertEqual((never_more(SECOND, FIRST), never_more(FIRST, SECOND)), (True, False))
        self.assertEqual((compare(SECOND, FIRST), compare(FIRST, LACKING)), ("less", "apart"))

    def test_against(self):
        self.assertEqual((spans_against(FIRST, SECOND), spans_against(SECOND, FIRST)), (((2, 3),), ()))
        self.assertEqual((spans_against(LACKING, FIRST), spans_against(FIRST, LACKING)), (((3, None),), ((0, 1),)))
        self.assertIs(is_against(FIRST, SECOND, against(FIRST, SECOND)), True)
        self.assertEqual([is_against(FIRST, SECOND, butt) for butt in (1, 2, 3, 4)], [False, True, True, False])
        self.assertIsNone(against(SECOND, FIRST))

    def test_most_more(self):
        self.assertEqual((most_more(FIRST, SECOND), most_more_butt(FIRST, SECOND)), (1, 2))
        self.assertEqual((most_more(SECOND, FIRST), most_more_butt(SECOND, FIRST)), (0, 0))
        self.assertEqual((most_more(LACKING, FIRST), most_more_butt(LACKING, FIRST)), (2, 4))
        self.assertEqual(most_more(Year((1,)), LACKING), -2)

    def test_between(self):
        told = [never_more_between(FIRST, SECOND, *ends) for ends in ((0, 1), (1, 2), (4, GREAT), (3, 2))]
        self.assertEqual(told, [True, False, True, True])
        self.assertIs(never_more_between(LACKING, FIRST, 10 ** 29, GREAT), False)

    def test_alike_and_spilled(self):
        self.assertEqual((alike(FIRST, Year((-4, 3, -1, 2))), alike(FIRST, SECOND)), (True, False))
        self.assertEqual((never_spills_more(SECOND, FIRST), never_spills_more(Year((3, -1)), FIRST)), (True, False))
        self.assertEqual(most_spilled_more(Year((3, -1)), FIRST), 2)


class AllPairsTest(unittest.TestCase):
    def test_spans(self):
        for one, other in pairs():
            more = [butt for butt, number in enumerate(differences(one, other)) if number > 0]
            spans = spans_against(one, other)
            told = []
            for first, last in spans:
                told.extend(range(first, LAST + 1 if last is None else last + 1))
                # Nothing is bought more just below, nor just above.
                self.assertNotIn(first - 1, more)
                self.assertFalse(last is not None and last + 1 in more)
            self.assertEqual(told, more, (one.runs, other.runs))
            self.assertEqual(LAST in more, bool(spans) and spans[-1][1] is None)

    def test_one_butt(self):
        for one, other in pairs():
            more = differences(one, other)
            butt = against(one, other)
            self.assertEqual(butt is None, max(more) <= 0)
            self.assertEqual(never_more(one, other), max(more) <= 0)
            if butt is not None:
                self.assertIs(is_against(one, other, butt), True)
                # Both can be walked through: behind many years each buys what it does in the long run.
                one_level, other_level = [walk_straight(year.runs * 30, butt, 0)[0] for year in (one, other)]
                one_buys = walk_straight(one.runs, butt, one_level)[1]
                self.assertGreater(one_buys, walk_straight(other.runs, butt, other_level)[1])
            for butt, number in enumerate(more):
                self.assertIs(is_against(one, other, butt), number > 0)

    def test_most_more(self):
        for one, other in pairs():
            more = differences(one, other)
            self.assertEqual(most_more(one, other), max(more))
            self.assertEqual(most_more_butt(one, other), more.index(max(more)))

    def test_between(self):
        for one, other in itertools.product(SOME, repeat=2):
            more = differences(one, other)
            for least, most in itertools.product((0, 1, 2, 4, 7, LAST), repeat=2):
                told = never_more_between(one, other, least, most)
                self.assertIs(told, max(more[least:most + 1], default=0) <= 0, (one.runs, other.runs, least, most))
            self.assertIs(never_more_between(one, other, GREAT, 2 * GREAT), more[-1] <= 0)

    def test_compared(self):
        for one, other in pairs():
            more = differences(one, other)
            self.assertIs(alike(one, other), not any(more))
            self.assertEqual(alike(one, other), one.heap == other.heap)
            if not any(more):
                word = "alike"
            elif min(more) < 0 < max(more):
                word = "apart"
            else:
                word = "less" if min(more) < 0 else "more"
            self.assertEqual(compare(one, other), word)

    def test_spilled(self):
        for one, other in pairs():
            more = differences(one, other, spilled)
            self.assertIs(never_spills_more(one, other), max(more) <= 0)
            self.assertEqual(most_spilled_more(one, other), max(more))


class AgreeTest(unittest.TestCase):
    def test_sums_of_swings(self):
        for one, other in pairs():
            lines = [line.partition(": ")[2].split(" and ") for line in lines_of(one, other)]
            self.assertIs(never_more(one, other), all(int(mine) <= int(yours) for mine, yours in lines))

    def test_heaps_and_steps(self):
        for one, other in pairs():
            self.assertIs(never_more(one, other), heap_within(one.heap, other.heap))
            self.assertEqual(compare(one, other), heap_compare(one.heap, other.heap))
            self.assertEqual(most_more(one, other), most_over(one.heap, other.heap))
            self.assertEqual(never_more(one, other), steps(one.heap, other.heap) is not None)

    def test_years_alike(self):
        for one in SOME:
            for other in (one, backwards(one), begun_at(one, len(one) - 1)):
                self.assertEqual((alike(one, other), compare(one, other), most_more(one, other)), (True, "alike", 0))
                self.assertEqual((spans_against(one, other), against(one, other)), ((), None))
                self.assertEqual(most_more_butt(one, other), 0)
            # What the opposite year spills, the year itself buys.
            self.assertEqual(never_spills_more(opposite(one), opposite(SECOND)), never_more(one, SECOND))


class EdgesTest(CallCase, unittest.TestCase):
    def test_several_spans(self):
        one, other = Year(year_with((0, (9, 1)))), Year(year_with((0, (5, 5))))
        self.assertEqual((spans_against(one, other), spans_against(other, one)), (((2, 8),), ()))
        one, other = Year(year_with((1, (9, 3, 3)))), Year(year_with((0, (9, 5, 4))))
        self.assertEqual(spans_against(one, other), ((5, None),))
        self.assertEqual(spans_against(other, one), ((0, 3),))
        one, other = Year(year_with((0, (12, 2, 2, 2)))), Year(year_with((1, (8, 7))))
        self.assertEqual(spans_against(one, other), ((0, 0), (5, 10)))
        self.assertEqual(spans_against(other, one), ((2, 3), (12, None)))

    def test_years_of_one_sign(self):
        rain, watering, more = Year((4,)), Year((-4,)), Year((-2, -3))
        self.assertEqual((spans_against(watering, rain), spans_against(rain, watering)), (((0, None),), ()))
        self.assertEqual((spans_against(more, watering), most_more(more, watering)), (((0, None),), 1))
        self.assertEqual((most_more(watering, more), most_more_butt(watering, more)), (-1, 0))
        self.assertEqual((compare(rain, watering), compare(more, watering), alike(rain, Year((9,)))), ("less", "more", True))
        self.assertEqual((never_spills_more(rain, Year((9,))), most_spilled_more(rain, Year((9,)))), (True, -5))
        self.assertEqual(most_spilled_more(Year((9,)), rain), 5)

    def test_always_less(self):
        self.assertEqual([most_more(Year((-1,)), Year((5, -9))), most_more_butt(Year((-1,)), Year((5, -9)))], [-3, 5])
        self.assertEqual(most_spilled_more(Year((1,)), Year((9, -5))), -3)

    def test_great_numbers(self):
        one, other = Year((2 * GREAT, -2 * GREAT)), Year((GREAT, -GREAT, GREAT, -GREAT))
        self.assertEqual(spans_against(one, other), ((1, 2 * GREAT - 1),))
        self.assertEqual((most_more(one, other), most_more_butt(one, other), compare(one, other)), (GREAT, GREAT, "more"))
        thirds = Year((GREAT, -GREAT) * 3)
        # 2 * GREAT + 1 - c is above 3 * GREAT - 3 * c exactly if c is above (GREAT - 1) / 2.
        one = Year((2 * GREAT + 1, -2 * GREAT - 1))
        self.assertEqual(spans_against(one, thirds), ((GREAT // 2, 2 * GREAT),))
        self.assertEqual(spans_against(thirds, one), ((0, GREAT // 2 - 1),))
        self.assertEqual(never_more_between(one, thirds, 0, GREAT // 2 - 1), True)
        self.assertEqual(never_more_between(one, thirds, 0, GREAT // 2), False)
        self.assertEqual(never_more_between(one, thirds, 2 * GREAT, 9 * GREAT), False)
        self.assertEqual(never_more_between(one, thirds, 2 * GREAT + 1, 9 * GREAT), True)

    def test_things(self):
        wrong = list(NO_NUMBERS) + [-1, -2, -GREAT, (2,), [2], "2", DEEP]
        self.assert_no(is_against, (FIRST, SECOND), wrong + [0, 1, 4, GREAT, 10 ** 60])
        self.assert_yes(is_against, (FIRST, SECOND), [2, 3])
        self.assert_yes(is_against, (LACKING, FIRST), [3, 4, GREAT, 10 ** 60])
        self.assert_no(is_against, (LACKING, FIRST), wrong + [0, 2])

    def test_how_they_are_called(self):
        self.assert_told(False, never_more, one=FIRST, other=SECOND)
        self.assert_told(((3, None),), spans_against, one=LACKING, other=FIRST)
        self.assert_told((), spans_against, one=SECOND, other=FIRST)
        self.assert_told(against(FIRST, SECOND), against, one=FIRST, other=SECOND)
        self.assert_told(False, never_more_between, one=FIRST, other=SECOND, least=1, most=2)
        self.assert_told(1, most_more, one=FIRST, other=SECOND)
        self.assert_told(2, most_more_butt, one=FIRST, other=SECOND)
        self.assert_told(False, alike, one=FIRST, other=SECOND)
        self.assert_told("less", compare, one=SECOND, other=FIRST)
        self.assert_told(True, never_spills_more, one=SECOND, other=FIRST)
        self.assert_told(1, most_spilled_more, one=FIRST, other=SECOND)
        self.assertIs(is_against(one=FIRST, other=SECOND, thing=2), True)


if __name__ == "__main__":
    unittest.main()

"""Promise 13: two gardens with a butt each or with one in common, and promise 2 for what tells of them."""

import itertools
import unittest

from allbutts.common import (
    apart_heap, best_parting, bought_on, common, common_heap, gain, is_days, least_apart, most_gain, most_gain_butt,
    never_gains, year_of,
)
from allbutts.errors import OtherDays
from allbutts.heaps import bought_by_heap, heap_within, most_over
from allbutts.longrun import bought
from tests.helpers import DEEP, NO_NUMBERS, CallCase, ErrorCase, lists_to_tuples, tuples_to_lists, walk_straight

ONE, OTHER = (3, -1, 2, -4), (0, -2, -1, 3)
# As great as numbers of days may be.
FAR = 10 ** 29
# No swing of the gardens below is greater, so behind this size nothing changes.
LAST = 26
LONGER = [
    ONE, OTHER, (4, -4, 0, 0), (0, 0, 5, -5), (1, -2, 2, -1), (0, 0, 0, 0), (2, 0, 0, 3), (-3, 0, 0, -1), (-9, 8, -7, 6),
    (6, -5, 5, -6), (1, -9, 9, -1), (3, -3, 3, -3),
]
WITH_BUTT = {"gain": (1, 2), "least_apart": (2,), "best_parting": (2,)}
OF_BOTH = (
    common, apart_heap, common_heap, gain, least_apart, best_parting, most_gain, most_gain_butt, never_gains,
)


def pairs():
    """Two gardens of as many days, small ones and longer ones."""
    for many in (1, 2, 3):
        some = list(itertools.product(range(-2, 3), repeat=many))
        yield from itertools.product(some[::4] if many == 3 else some, repeat=2)
    yield from itertools.product(LONGER, repeat=2)


def straight(days, butt):
    """What the last one of many years buys, walked day by day."""
    level = walk_straight(days * 30, butt, 0)[0]
    return walk_straight(days, butt, level)[1]


def table(days):
    return [straight(days, butt) for butt in range(LAST + 1)]


TABLES = {}


def kept_table(days):
    if days not in TABLES:
        TABLES[days] = table(days)
    return TABLES[days]


class ExamplesTest(ErrorCase, unittest.TestCase):
    def test_days(self):
        self.assertEqual(common(ONE, OTHER), (3, -3, 1, -1))
        self.assertEqual((year_of((0, 3, 0, -1)).runs, year_of((0, 0))), ((3, -1), None))
        self.assertEqual((is_days((0,)), is_days(())), (True, False))
        self.assertEqual((bought_on(ONE, 1), bought_on(OTHER, 1), bought_on((0,), 0)), (3, 2, 0))

    def test_heaps(self):
        self.assertEqual((apart_heap(ONE, OTHER), common_heap(ONE, OTHER)), ((0, (7, 1)), (0, (3, 1))))
        self.assertEqual(apart_heap((2, -5), (3, -3)), (3, (5,)))
        self.assertEqual(common_heap((2, -5), (-5, 2)), (6, ()))

    def test_gains(self):
        self.assertEqual((gain(ONE, OTHER, 1, 1), least_apart(ONE, OTHER, 2)), (4, 5))
        self.assertEqual(best_parting(ONE, OTHER, 2), (1, 1))
        self.assertEqual((most_gain(ONE, OTHER), most_gain_butt(ONE, OTHER)), (4, 0))
        self.assertEqual((never_gains(ONE, OTHER), never_gains((2, -2), (3, -3))), (False, True))
        self.assert_raised(OtherDays, {}, common, ONE, (1,))


class DaysTest(CallCase, unittest.TestCase):
    def test_things(self):
        self.assert_yes(is_days, (), [(0,), (1, -1), (0, 0, 0), (10 ** 60, -10 ** 60), tuple(range(-999, 999))])
        wrong = [(), [0], [1, 2], (1, True), (False,), (None,), (1, "1"), (1, (1,)), ([1],), ((1,),), 0, 5, "0", DEEP]
        # A tuple of one number is days.
        self.assert_no(is_days, (), wrong + [thing for thing in NO_NUMBERS if thing != (1,)])

    def test_years_of_days(self):
        self.assertEqual(year_of((0, 0, 5)).runs, (5,))
        self.assertEqual(year_of((-1, 0, 0, 5, 0, 2)).runs, (-1, 5, 2))
        self.assertEqual(year_of([0, 3, 0, -1]).runs, (3, -1))
        for days in ((0,), [0], (0,) * 40, [0] * 40):
            self.assertIsNone(year_of(days))
        self.assertEqual(len(year_of((1, 0) * 20)), 20)

    def test_what_is_bought_on_them(self):
        for days in LONGER + [(0,), (4,), (-4,), (0, 1, 0, -3)]:
            for butt in range(LAST + 1):
                self.assertEqual(bought_on(days, butt), straight(days, butt), (days, butt))
            year = year_of(days)
            if year is not None:
                self.assertEqual(bought_on(days, 3), bought(year, 3))

    def test_in_common(self):
        for one, other in pairs():
            self.assertEqual(common(one, other), tuple(mine + yours for mine, yours in zip(one, other)))


class AllSizesTest(unittest.TestCase):
    def test_apart_and_in_common(self):
        for one, other in pairs():
            mine, yours, both = kept_table(one), kept_table(other), kept_table(common(one, other))
            apart, together = apart_heap(one, other), common_heap(one, other)
            gains = []
            for size in range(LAST + 1):
                sums = [mine[first] + yours[size - first] for first in range(size + 1)]
                self.assertEqual(bought_by_heap(apart, size), min(sums), (one, other, size))
                self.assertEqual(least_apart(one, other, size), min(sums))
                first = sums.index(min(sums))
                self.assertEqual(best_parting(one, other, size), (first, size - first), (one, other, size))
                self.assertEqual(bought_by_heap(together, size), both[size])
                gains.append(min(sums) - both[size])
            self.assertGreaterEqual(min(gains), 0)
            self.assertEqual((most_gain(one, other), most_gain_butt(one, other)), (max(gains), gains.index(max(gains))))
            self.assertIs(never_gains(one, other), not any(gains))
            self.assertEqual(never_gains(one, other), apart == together)

    def test_gains(self):
        for one, other in itertools.product(LONGER, repeat=2):
            both = common(one, other)
            for butt, further in itertools.product((0, 1, 2, 3, 5, 8), repeat=2):
                right = straight(one, butt) + straight(other, further) - straight(both, butt + further)
                self.assertEqual(gain(one, other, butt, further), right)
                self.assertGreaterEqual(right, 0)

    def test_heaps_of_both(self):
        for one, other in pairs():
            apart, together = apart_heap(one, other), common_heap(one, other)
            self.assertIs(heap_within(together, apart), True)
            self.assertEqual(most_gain(one, other), most_over(apart, together))
            year = year_of(common(one, other))
            self.assertEqual(together, (0, ()) if year is None else year.heap)


class EdgesTest(CallCase, ErrorCase, unittest.TestCase):
    def test_other_days(self):
        for one, other in ((ONE, (1,)), ((1,), ONE), ((0,), (0, 0)), ((1, -1, 1), (1, -1))):
            for call in OF_BOTH:
                rest = WITH_BUTT.get(call.__name__, ())
                self.assert_raised(OtherDays, {}, call, one, other, *rest)
                self.assert_raised(OtherDays, {}, call, list(one), list(other), *rest)
                self.assert_raised(OtherDays, {}, call, one=one, other=other, **dict(zip(("butt", "further"), rest)))

    def test_gardens_of_nothing(self):
        for nothing in ((0,), (0,) * 7):
            many = len(nothing)
            self.assertEqual((apart_heap(nothing, nothing), common_heap(nothing, nothing)), ((0, ()), (0, ())))
            self.assertEqual((most_gain(nothing, nothing), most_gain_butt(nothing, nothing)), (0, 0))
            self.assertIs(never_gains(nothing, nothing), True)
            self.assertEqual((best_parting(nothing, nothing, 5), least_apart(nothing, nothing, 0)), ((0, 5), 0))
            needs = (-2,) * many
            self.assertEqual(apart_heap(nothing, needs), (2 * many, ()))
            self.assertIs(never_gains(needs, nothing), True)

    def test_one_day(self):
        self.assertEqual((apart_heap((5,), (-3,)), common_heap((5,), (-3,))), ((3, ()), (0, ())))
        self.assertEqual((most_gain((5,), (-3,)), most_gain_butt((5,), (-3,)), gain((5,), (-3,), 0, 0)), (3, 0, 3))
        self.assertEqual((common((5,), (-5,)), most_gain((5,), (-5,)), never_gains((5,), (-5,))), ((0,), 5, False))
        self.assertIs(never_gains((-5,), (-3,)), True)

    def test_a_size_of_nothing(self):
        for one, other in itertools.product(LONGER, repeat=2):
            self.assertEqual(best_parting(one, other, 0), (0, 0))
            self.assertEqual(least_apart(one, other, 0), straight(one, 0) + straight(other, 0))

    def test_the_greatest_gain_is_not_always_at_nothing(self):
        one, other = (2, -2, 0, 0), (0, 0, 2, -2)
        self.assertEqual((apart_heap(one, other), common_heap(one, other)), ((0, (4,)), (0, (2, 2))))
        self.assertEqual((most_gain(one, other), most_gain_butt(one, other)), (2, 2))

    def test_great_numbers(self):
        one, other = (FAR, -FAR) * 20, (-FAR, FAR) * 20
        self.assertEqual(common(one, other), (0,) * 40)
        self.assertEqual(apart_heap(one, other), (0, (2 * FAR,) * 20))
        self.assertEqual((most_gain(one, other), most_gain_butt(one, other)), (40 * FAR, 0))
        self.assertEqual((least_apart(one, other, 2 * FAR - 1), least_apart(one, other, 2 * FAR)), (20, 0))
        self.assertEqual(best_parting(one, other, 2 * FAR), (FAR, FAR))
        # Both save as much for each size until one of them needs no more: the first butt as small as can be.
        self.assertEqual(best_parting(one, other, FAR + 7), (7, FAR))
        self.assertEqual(best_parting(one, other, 10 * FAR), (FAR, 9 * FAR))
        self.assertEqual(gain(one, other, FAR - 1, 10 * FAR), 20)

    def test_how_they_are_called(self):
        self.assert_told(None, year_of, days=(0, 0))
        self.assert_told(3, bought_on, days=ONE, butt=1)
        self.assert_told((3, -3, 1, -1), common, one=ONE, other=OTHER)
        self.assert_told((0, (7, 1)), apart_heap, one=ONE, other=OTHER)
        self.assert_told((0, (3, 1)), common_heap, one=ONE, other=OTHER)
        self.assert_told(4, gain, one=ONE, other=OTHER, butt=1, further=1)
        self.assert_told(5, least_apart, one=ONE, other=OTHER, butt=2)
        self.assert_told((1, 1), best_parting, one=ONE, other=OTHER, butt=2)
        self.assert_told(4, most_gain, one=ONE, other=OTHER)
        self.assert_told(0, most_gain_butt, one=ONE, other=OTHER)
        self.assert_told(False, never_gains, one=ONE, other=OTHER)
        for form in (lists_to_tuples, tuples_to_lists):
            days = form((0, 3, 0, -1))
            self.assertEqual((year_of(days), year_of(days=days), days), (year_of((3, -1)),) * 2 + (form((0, 3, 0, -1)),))


if __name__ == "__main__":
    unittest.main()

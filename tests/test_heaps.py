"""Promise 11: heaps and tables, and promise 2 for what judges, compares and makes them."""

import itertools
import unittest

from allbutts.heaps import (
    above_both, below_both, bought_by_heap, bought_table, butt_for, first_sums, heap_against, heap_compare, heap_of,
    heap_sum, heap_within, is_heap, is_swings, is_table, most_over,
)
from allbutts.years import Year
from tests.helpers import DEEP, GREAT, NO_NUMBERS, CallCase, bought_straight, heaps_to, rows_to

ONE, OTHER, FAR = (0, (4, 1)), (0, (3, 2)), (1, (2, 2))
SMALL = heaps_to(2, 3, 3)
# Greater ones, some of whose differences change their signs between two butts.
SOME = [
    (0, ()), (3, ()), (0, (9,)), (0, (5, 5)), (1, (8,)), (0, (4, 4, 4)), (2, (7, 1)), (0, (3, 3, 3, 3)), (5, (1,)),
    (0, (9, 1, 1, 1)), (0, (6, 6, 1)), (1, (5, 4, 3, 2, 1)), (0, (2,) * 7), (4, (3, 2)), (1, (9, 9)),
]


def table_straight(heap, most):
    """What a heap buys with the butts from 0 to most."""
    return [bought_straight(heap, butt) for butt in range(most + 1)]


def never_more_straight(one, other):
    """Whether one heap, of swings to 10, never buys more than the other one."""
    return all(mine <= yours for mine, yours in zip(table_straight(one, 10), table_straight(other, 10)))


class ExamplesTest(unittest.TestCase):
    def test_bought(self):
        self.assertEqual([bought_by_heap(ONE, butt) for butt in range(5)], [5, 3, 2, 1, 0])
        self.assertEqual((bought_table(OTHER, 4), butt_for(ONE, 2), butt_for((3, (5,)), 2)), ((5, 3, 1, 0, 0), 2, None))
        self.assertEqual(first_sums(ONE, 3), [0, 4, 5, 5])

    def test_compared(self):
        self.assertEqual((heap_within(OTHER, ONE), heap_within(ONE, OTHER)), (True, False))
        self.assertEqual((heap_against(ONE, OTHER), heap_against(OTHER, ONE)), (1, None))
        self.assertEqual((heap_compare(ONE, OTHER), heap_compare(ONE, FAR)), ("more", "apart"))
        self.assertEqual((most_over(ONE, OTHER), most_over(OTHER, ONE), most_over(FAR, ONE)), (1, 0, 1))

    def test_made_of_both(self):
        self.assertEqual((below_both(ONE, FAR), above_both(ONE, FAR)), ((0, (3, 2)), (1, (3, 1))))
        self.assertEqual(heap_sum(ONE, FAR), (1, (4, 2, 2, 1)))

    def test_tables(self):
        things = (5, 3, 2, 1, 0), (5, 4, 2), (2,), [2]
        self.assertEqual([is_table(thing) for thing in things], [True, False, True, False])
        self.assertEqual((heap_of((5, 3, 2, 1, 0)), heap_of((9, 6, 4))), ((0, (4, 1)), (4, (2, 2, 1))))
        self.assertIs(is_heap((0, (1, 2))), False)


class KindsTest(CallCase, unittest.TestCase):
    def test_swings(self):
        self.assert_yes(is_swings, (), [(), (1,), (4, 1), (2, 2, 2), (GREAT, 1), (10 ** 60,), (3,) * 5000])
        wrong = [(0,), (-1,), (1, 2), (3, 1, 2), (2, 0), (1, -1), [2], [], (2, True), ("2",), (None,), ((2,),), (2, (1,))]
        self.assert_no(is_swings, (), wrong + [(3,) * 5000 + (4,), 1, "", "-", None, True, 0, DEEP])

    def test_heaps(self):
        right = [(0, ()), (7, ()), (0, (4, 1)), (10 ** 60, (10 ** 60, 1)), (GREAT, (2,) * 5000)]
        self.assert_yes(is_heap, (), right)
        wrong = [(-1, ()), (True, ()), (None, ()), ("0", ()), ((), 0), (0, []), [0, ()], (0, (1, 2)), (0, (0,)), (0,)]
        wrong += [(0, (), ()), (0, 4, 1), (0, (4, True)), ((0, ()),), "0: -", (0, None), (0, 0), (0, "")]
        self.assert_no(is_heap, (), wrong + [DEEP] + list(NO_NUMBERS))

    def test_tables(self):
        right = {bought_table(heap, most) for heap in heaps_to(3, 3, 4) for most in range(4)}
        for length in range(1, 5):
            for thing in itertools.product(range(-1, 4), repeat=length):
                falls = [ahead - behind for ahead, behind in zip(thing, thing[1:])] + [0]
                told = min(thing) >= 0 and falls == sorted(falls, reverse=True)
                self.assertIs(is_table(thing), told, thing)
                self.assertEqual(told, thing in right)

    def test_other_tables(self):
        self.assert_yes(is_table, (), [(0,), (0, 0), (10 ** 60,), (10 ** 60, 1, 0), tuple(range(5000, -1, -1))])
        wrong = [(), [], [2], [2, 1], (-1,), (1, 2), (3, 3, 2), (True,), (2, True), (None,), ("2",), ((2,),), 2, "2"]
        self.assert_no(is_table, (), wrong + [(2, 1, -1), (5000,) * 5000 + (1,), None, True, DEEP])


class BoughtTest(CallCase, unittest.TestCase):
    def test_bought(self):
        for heap in SMALL + SOME:
            for butt in range(12):
                self.assertEqual(bought_by_heap(heap, butt), bought_straight(heap, butt))
            for most in (0, 1, 10, 60):
                self.assertEqual(bought_table(heap, most), tuple(table_straight(heap, most)))

    def test_a_table_of_one_place(self):
        self.assertEqual((bought_table(ONE, 0), bought_table((3, ()), 0)), ((5,), (3,)))

    def test_the_least_butt(self):
        for heap in SMALL + SOME:
            table = table_straight(heap, 12)
            for most in range(40):
                right = [butt for butt, bought in enumerate(table) if bought <= most]
                self.assertEqual(butt_for(heap, most), right[0] if right else None, (heap, most))

    def test_great_heaps(self):
        heap = (GREAT, (GREAT, GREAT, 1))
        self.assertEqual(bought_by_heap(heap, 0), 3 * GREAT + 1)
        self.assertEqual(bought_by_heap(heap, GREAT - 1), GREAT + 2)
        self.assertEqual([bought_by_heap(heap, GREAT), bought_by_heap(heap, 9 * GREAT)], [GREAT] * 2)
        self.assertEqual(butt_for(heap, GREAT), GREAT)
        self.assertEqual(butt_for(heap, GREAT + 1), GREAT)
        self.assertEqual(butt_for(heap, GREAT + 2), GREAT - 1)
        self.assertEqual(butt_for(heap, GREAT - 1), None)
        self.assertEqual(butt_for((0, (GREAT,) * 80), 79), GREAT)
        self.assertEqual(butt_for((0, (GREAT,) * 80), 80), GREAT - 1)

    def test_first_sums(self):
        for heap in SMALL + SOME:
            wants, swings = heap
            for many in (0, 1, 2, 5, 80):
                self.assertEqual(first_sums(heap, many), [wants + sum(swings[:k]) for k in range(many + 1)])
        self.assertEqual(first_sums((GREAT, (GREAT,) * 80), 80), [GREAT * k for k in range(1, 82)])

    def test_what_years_buy(self):
        for runs in rows_to(4, 2):
            year = Year(runs)
            level = 0
            for butt in range(5):
                # Behind 20 years each one buys the same.
                for _ in range(21):
                    bought = 0
                    for run in runs:
                        bought += max(0, -level - run)
                        level = max(0, min(butt, level + run))
                self.assertEqual(bought_by_heap(year.heap, butt), bought)


class ComparedTest(unittest.TestCase):
    def test_all_pairs(self):
        for one, other in [*itertools.product(SMALL, repeat=2), *itertools.product(SOME, repeat=2)]:
            mine, yours = table_straight(one, 12), table_straight(other, 12)
            less, more = never_more_straight(one, other), never_more_straight(other, one)
            self.assertIs(heap_within(one, other), less, (one, other))
            word = {(True, True): "alike", (True, False): "less", (False, True): "more", (False, False): "apart"}
            self.assertEqual(heap_compare(one, other), word[less, more])
            self.assertEqual(most_over(one, other), max(a - b for a, b in zip(mine, yours)))
            sums = zip(first_sums(one, 9), first_sums(other, 9))
            against = [k for k, (first, second) in enumerate(sums) if first > second]
            self.assertEqual(heap_against(one, other), against[0] if against else None)
            self.assertEqual(not against, less)

    def test_equal_heaps(self):
        for heap in SMALL + SOME:
            self.assertEqual((heap_compare(heap, heap), most_over(heap, heap)), ("alike", 0))
            self.assertIsNone(heap_against(heap, heap))

    def test_without_swings(self):
        self.assertEqual((heap_against((1, ()), (0, (5,))), heap_against((0, (5,)), (1, ()))), (0, 1))
        self.assertEqual((most_over((1, ()), (3, ())), most_over((3, ()), (1, ()))), (-2, 2))
        self.assertEqual((most_over((1, ()), (3, (5,))), most_over((0, ()), (0, ()))), (-2, 0))

    def test_great_heaps(self):
        one, other = (0, (2 * GREAT,)), (0, (GREAT, GREAT))
        self.assertEqual((heap_compare(one, other), most_over(one, other), most_over(other, one)), ("more", GREAT, 0))
        self.assertEqual(heap_against((0, (GREAT,) * 80), (0, (GREAT,) * 79)), 80)
        self.assertEqual(heap_against((0, (GREAT,) * 79), (1, (GREAT,) * 79)), None)


class BothTest(unittest.TestCase):
    def test_sums(self):
        for one, other in itertools.product(SOME, repeat=2):
            told = heap_sum(one, other)
            self.assertIs(is_heap(told), True)
            both = [a + b for a, b in zip(table_straight(one, 12), table_straight(other, 12))]
            self.assertEqual(table_straight(told, 12), both)

    def test_above(self):
        for one, other in [*itertools.product(SMALL, repeat=2), *itertools.product(SOME, repeat=2)]:
            told = above_both(one, other)
            self.assertIs(is_heap(told), True)
            greater = [max(pair) for pair in zip(table_straight(one, 12), table_straight(other, 12))]
            self.assertEqual(table_straight(told, 12), greater, (one, other))
            self.assertLessEqual(max(told[1], default=0), 12)

    def test_below(self):
        for one, other in [*itertools.product(SMALL, repeat=2), *itertools.product(SOME, repeat=2)]:
            told = below_both(one, other)
            self.assertIs(is_heap(told), True)
            sums = [min(pair) for pair in zip(first_sums(one, 9), first_sums(other, 9))]
            self.assertEqual(first_sums(told, 9), sums)

    def test_the_greatest_and_the_least(self):
        heaps = heaps_to(1, 3, 3)
        for one, other in itertools.combinations_with_replacement(heaps, 2):
            below, above = below_both(one, other), above_both(one, other)
            for heap in heaps:
                if never_more_straight(heap, one) and never_more_straight(heap, other):
                    self.assertTrue(never_more_straight(heap, below), (one, other, heap))
                if never_more_straight(one, heap) and never_more_straight(other, heap):
                    self.assertTrue(never_more_straight(above, heap), (one, other, heap))

    def test_equal_heaps_and_heaps_without_swings(self):
        for heap in SMALL + SOME:
            self.assertEqual([below_both(heap, heap), above_both(heap, heap)], [heap, heap])
        self.assertEqual((below_both((2, ()), (5, ())), above_both((2, ()), (5, ()))), ((2, ()), (5, ())))
        self.assertEqual((below_both((2, ()), (0, (5,))), above_both((2, ()), (0, (5,)))), ((0, (2,)), (2, (3,))))

    def test_great_heaps(self):
        one, other = (0, (2 * GREAT + 1,)), (0, (GREAT, GREAT, GREAT))
        above = above_both(one, other)
        # Both would buy the same with (GREAT - 1) / 2, which is no butt; one buys more with all above it.
        half = GREAT // 2
        self.assertIs(is_heap(above), True)
        for butt in (0, 1, half - 2, half - 1, half, half + 1, GREAT - 1, GREAT, GREAT + 1, 2 * GREAT, 2 * GREAT + 1):
            greater = max(bought_straight(one, butt), bought_straight(other, butt))
            self.assertEqual(bought_by_heap(above, butt), greater, butt)
        self.assertEqual(len(above[1]), 3)
        self.assertEqual(below_both(one, other), (0, (GREAT, GREAT, 1)))
        self.assertEqual(heap_sum(one, other), (0, (2 * GREAT + 1, GREAT, GREAT, GREAT)))

    def test_many_swings(self):
        one, other = (3, tuple(range(160, 0, -2))), (0, tuple(range(161, 81, -1)))
        above, below = above_both(one, other), below_both(one, other)
        pairs = list(zip(table_straight(one, 170), table_straight(other, 170)))
        self.assertEqual(table_straight(above, 170), [max(pair) for pair in pairs])
        sums = [min(pair) for pair in zip(first_sums(one, 80), first_sums(other, 80))]
        self.assertEqual(first_sums(below, 80), sums)
        self.assertEqual((is_heap(above), is_heap(below)), (True, True))


class TablesTest(CallCase, unittest.TestCase):
    def test_back_and_forth(self):
        for heap in SMALL + SOME:
            greatest = max(heap[1], default=0)
            for most in (greatest, greatest + 1, 60):
                self.assertEqual(heap_of(bought_table(heap, most)), heap)

    def test_swings_beyond_the_last_butt(self):
        for heap in SMALL + SOME:
            for most in range(5):
                table = bought_table(heap, most)
                told = heap_of(table)
                self.assertIs(is_heap(told), True)
                self.assertEqual(bought_table(told, most), table)
                self.assertLessEqual(max(told[1], default=0), most)

    def test_a_table_of_one_place(self):
        self.assertEqual([heap_of((0,)), heap_of((60,))], [(0, ()), (60, ())])

    def test_long_tables(self):
        self.assertEqual(heap_of(tuple(range(60, -1, -1))), (0, (60,)))
        self.assertEqual(heap_of((60,) + (0,) * 60), (0, (1,) * 60))
        self.assertEqual(heap_of((7,) * 61), (7, ()))

    def test_how_they_are_called(self):
        self.assert_told(3, bought_by_heap, heap=ONE, butt=1)
        self.assert_told([0, 4, 5, 5], first_sums, heap=ONE, many=3)
        self.assert_told(1, heap_against, one=ONE, other=OTHER)
        self.assert_told(None, heap_against, one=OTHER, other=ONE)
        self.assert_told(True, heap_within, one=OTHER, other=ONE)
        self.assert_told(True, heap_within, one=ONE, other=ONE)
        self.assert_told("alike", heap_compare, one=FAR, other=FAR)
        self.assert_told("apart", heap_compare, one=ONE, other=FAR)
        self.assert_told(1, most_over, one=ONE, other=OTHER)
        self.assert_told(2, butt_for, heap=ONE, most=2)
        self.assert_told((1, (4, 2, 2, 1)), heap_sum, one=ONE, other=FAR)
        self.assert_told((0, (3, 2)), below_both, one=ONE, other=FAR)
        self.assert_told((1, (3, 1)), above_both, one=ONE, other=FAR)
        self.assert_told((0, ()), above_both, one=(0, ()), other=(0, ()))
        self.assert_told((5, 3, 1, 0, 0), bought_table, heap=OTHER, most=4)
        self.assert_told((4, (2, 2, 1)), heap_of, table=(9, 6, 4))


if __name__ == "__main__":
    unittest.main()

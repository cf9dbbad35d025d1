"""Promise 17: the same runs in all orders, and promise 2 for what tells of them."""

import itertools
import unittest

from allbutts.lead import never_more
from allbutts.longrun import bought
from allbutts.most import (
    all_swings, best_for_all, best_order, how_many_orders, is_best, is_order, least_bought, most_bought, worst_order,
)
from allbutts.years import Year, opposite
from tests.helpers import DEEP, GREAT, NO_NUMBERS, CallCase, rows_to, walk_straight

RUNS = (3, -1, 2, -4)
EIGHT = (1, -2, 3, -4, 5, -6, 7, -8)
ONE_SIGN = [(7,), (-7,), (1, 2), (-3, -3, -1), (2, 2, 2, 2, 2, 2, 2, 2)]
SMALL = list(rows_to(3, 2)) + ONE_SIGN[:-1]
LONGER = [
    RUNS, (2, -2, 2, -2), (1, 2, 3, -6), (5, -3, 1, -3), (5, -4, -1, 3, -2), (9, -1, -1, -1, 2), (4, 4, -4, -4, 4),
    (3, 3, -2, -2, -2, 1), (6, -5, 4, -3, 2, -1), (7, 1, -7, -1, 3, -3),
]
# With small butts other orders of these are the best than with great ones.
NO_BEST = [(6, 1, 6, 4, -7, -8, -1, -1), (1, 7, 8, 8, -9, -1, -4, -10), (8, 1, 8, 5, -7, -5, -3, -7)]
BUTTS = (0, 1, 2, 3, 5, 9)


def straight(runs, butt):
    """What the last one of many years buys, walked run by run."""
    level = walk_straight(runs * 20, butt, 0)[0]
    return walk_straight(runs, butt, level)[1]


def orders(runs):
    return sorted(set(itertools.permutations(runs)))


class ExamplesTest(unittest.TestCase):
    def test_most_and_least(self):
        told = most_bought(RUNS, 2), least_bought(RUNS, 2), most_bought(RUNS, 0), least_bought(RUNS, 0)
        self.assertEqual(told, (3, 2, 5, 5))
        self.assertEqual((all_swings(RUNS), most_bought((3, -1, -9), 0)), ([(4, 1), (5,)], 10))

    def test_how_many(self):
        told = [how_many_orders(RUNS, swings) for swings in ((4, 1), (5,), (3, 2))]
        self.assertEqual((told, how_many_orders((2, -2, 2, -2), (2, 2))), ([2, 4, 0], 1))

    def test_orders(self):
        self.assertEqual((is_order(RUNS, (2, -4, 3, -1)), is_order(RUNS, (2, -4, 3))), (True, False))
        told = [is_best(RUNS, 2, (2, -4, 3, -1)), is_best(RUNS, 2, (3, 2, -1, -4)), is_best(RUNS, 0, (3, 2, -1, -4))]
        self.assertEqual((told, is_best(RUNS, 3, best_order(RUNS, 3))), ([True, False, True], True))
        self.assertEqual((Year(worst_order(RUNS)).swings, Year(best_for_all(RUNS)).swings), ((5,), (4, 1)))
        self.assertEqual((all_swings((7,)), all_swings((1, 2)), best_for_all((-7,))), ([()], [()], (-7,)))


class AllOrdersTest(unittest.TestCase):
    def test_what_is_bought(self):
        for runs in SMALL + LONGER:
            for butt in BUTTS:
                table = {order: straight(order, butt) for order in orders(runs)}
                least, most = min(table.values()), max(table.values())
                self.assertEqual((least_bought(runs, butt), most_bought(runs, butt)), (least, most), (runs, butt))
                best = best_order(runs, butt)
                self.assertIs(type(best), tuple)
                self.assertEqual(table[best], least)
                for order in list(table)[::5] + [best]:
                    self.assertIs(is_best(runs, butt, order), table[order] == least)

    def test_swings(self):
        for runs in SMALL + LONGER:
            counts = {}
            for order in orders(runs):
                counts.setdefault(Year(order).swings, []).append(order)
            self.assertEqual(all_swings(runs), sorted(counts))
            for swings, found in counts.items():
                self.assertEqual(sum(swings), min(Year(runs).rain, Year(runs).draws))
                right = len([order for order in found if order[0] == runs[0]])
                self.assertEqual(how_many_orders(runs, swings), right)
                self.assertEqual(how_many_orders(list(runs), list(swings)), right)
            self.assertEqual(how_many_orders(runs, (99,)), 0)

    def test_worst_of_all(self):
        for runs in SMALL + LONGER:
            worst = worst_order(runs)
            self.assertEqual((type(worst), sorted(worst)), (tuple, sorted(runs)))
            for order in orders(runs):
                self.assertIs(never_more(Year(order), Year(worst)), True)
            for butt in BUTTS:
                self.assertEqual(most_bought(runs, butt), bought(Year(worst), butt))

    def test_best_of_all(self):
        for runs in SMALL + LONGER:
            years = [Year(order) for order in orders(runs)]
            right = [year.runs for year in years if all(never_more(year, other) for other in years)]
            told = best_for_all(runs)
            self.assertEqual(told is None, not right)
            if right:
                self.assertIs(type(told), tuple)
                self.assertIn(told, right)
                for butt in BUTTS:
                    self.assertIs(is_best(runs, butt, told), True)

    def test_there_may_be_none(self):
        for runs in NO_BEST + [EIGHT, (6, 1, 6, 4, -7, -8, -2)]:
            rows = all_swings(runs)
            # The least sums of all: there is a best order only if one order has all of them.
            sums = [min(sum(swings[:many]) for swings in rows) for many in range(5)]
            right = any([sum(swings[:many]) for many in range(5)] == sums for swings in rows)
            self.assertEqual(right, runs not in NO_BEST)
            told = best_for_all(runs)
            self.assertEqual(told is not None, right)
            if right:
                swings = Year(told).swings
                self.assertEqual(([sum(swings[:many]) for many in range(5)], is_order(runs, told)), (sums, True))


class EdgesTest(CallCase, unittest.TestCase):
    def test_one_sign(self):
        for runs in ONE_SIGN:
            wants = max(0, -sum(runs))
            for butt in (0, 3, GREAT):
                self.assertEqual((most_bought(runs, butt), least_bought(runs, butt)), (wants, wants))
                self.assertIs(is_best(runs, butt, runs[::-1]), True)
                self.assertIs(is_order(runs, best_order(runs, butt)), True)
            self.assertEqual(all_swings(runs), [()])
            self.assertIs(is_order(runs, best_for_all(runs)), True)
            self.assertIs(is_order(runs, worst_order(runs)), True)
        self.assertEqual([how_many_orders((1, 2, 3), ()), how_many_orders((7,), ()), how_many_orders((2,) * 8, ())], [2, 1, 1])

    def test_equal_runs(self):
        self.assertEqual((how_many_orders((2, -2, 2, -2), (4,)), how_many_orders((2, 2, -2, -2), (2, 2))), (2, 1))
        self.assertEqual(all_swings((1, -1) * 4), [(1, 1, 1, 1), (2, 1, 1), (2, 2), (3, 1), (4,)])
        swings = all_swings((1, -1) * 4)
        # 7 runs behind the first rain, 3 of them rain.
        self.assertEqual(sum(how_many_orders((1, -1) * 4, row) for row in swings), 35)

    def test_eight_runs(self):
        swings = all_swings(EIGHT)
        self.assertEqual(sum(how_many_orders(EIGHT, row) for row in swings), 5040)
        self.assertEqual((swings, swings[-1]), (sorted(swings), (16,)))
        for butt in (0, 1, 4, 7, 20):
            best = best_order(EIGHT, butt)
            self.assertIs(is_best(EIGHT, butt, best), True)
            least = min(sum(max(0, swing - butt) for swing in row) for row in swings)
            self.assertEqual((least_bought(EIGHT, butt), bought(Year(best), butt)), (least + 4, least + 4))
        self.assertEqual(most_bought(EIGHT, 4), 16)

    def test_forty_runs(self):
        runs = (GREAT, -1, -GREAT, 2) * 10
        self.assertEqual(worst_order(runs), (GREAT, 2) * 10 + (-1, -GREAT) * 10)
        self.assertEqual((most_bought(runs, GREAT), most_bought(runs, 0)), (9 * GREAT + 10, 10 * GREAT + 10))
        self.assertIs(is_order(runs, tuple(sorted(runs))), True)
        self.assertIs(is_order(runs, runs[1:] + (3,)), False)

    def test_great_runs(self):
        runs = (GREAT, -GREAT, GREAT - 1, 1 - GREAT)
        self.assertEqual(all_swings(runs), [(GREAT, GREAT - 1), (2 * GREAT - 1,)])
        self.assertEqual((least_bought(runs, GREAT - 1), most_bought(runs, GREAT - 1)), (1, GREAT))
        self.assertEqual(how_many_orders(runs, (GREAT, GREAT - 1)), 2)

    def test_the_opposite_runs(self):
        for runs in LONGER:
            self.assertEqual(all_swings(runs), all_swings(opposite(Year(runs)).runs))

    def test_things(self):
        self.assert_yes(is_order, (RUNS,), [RUNS, RUNS[::-1], (-4, -1, 2, 3)])
        wrong = [
            list(RUNS), (), (3, -1, 2), RUNS + (3,), RUNS + (0,), (3, -1, 2, -5), (3, 3, 2, -4), (3, -1, 2, "-4"), RUNS * 2,
            (RUNS,), ([3], -1, 2, -4), (3, -1, 2, None), "3-12", DEEP, RUNS[:3] + (True,), (10 ** 60,) * 4, (1,) * 9999,
        ]
        self.assert_no(is_order, (RUNS,), wrong + list(NO_NUMBERS))
        self.assert_no(is_order, ((1, -1),), [(True, -1), (1, True), (1, -1, 1), (1, 1), [1, -1]])
        self.assert_yes(is_order, ((2, 2, -2),), [(2, -2, 2), (-2, 2, 2)])
        self.assert_no(is_order, ((2, 2, -2),), [(-2, -2, 2), (2, -2)])
        self.assert_yes(is_best, (RUNS, 2), [(2, -4, 3, -1), (-4, 3, -1, 2), RUNS])
        worse = [(3, 2, -1, -4), (-4, -1, 2, 3)]
        self.assert_no(is_best, (RUNS, 2), wrong + list(NO_NUMBERS) + worse + [[2, -4, 3, -1]])
        self.assert_yes(is_best, (RUNS, 0), worse)

    def test_how_they_are_called(self):
        self.assert_told(3, most_bought, runs=RUNS, butt=2)
        self.assert_told(2, least_bought, runs=RUNS, butt=2)
        self.assert_told(worst_order(RUNS), worst_order, runs=RUNS)
        self.assert_told(best_order(RUNS, 3), best_order, runs=RUNS, butt=3)
        self.assert_told(best_for_all(RUNS), best_for_all, runs=RUNS)
        self.assert_told([(4, 1), (5,)], all_swings, runs=RUNS)
        self.assert_told(4, how_many_orders, runs=RUNS, swings=(5,))
        self.assertIs(is_order(list(RUNS), RUNS), True)
        self.assertIs(is_order(runs=RUNS, thing=RUNS), True)
        self.assertIs(is_best(list(RUNS), 0, RUNS), True)
        self.assertIs(is_best(runs=RUNS, butt=0, thing=RUNS), True)
        all_swings(RUNS).append(None)
        self.assertEqual(len(all_swings(RUNS)), 2)


if __name__ == "__main__":
    unittest.main()

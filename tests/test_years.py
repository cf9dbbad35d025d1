"""Promises 3 and 4: years, their rings and swings, and promise 2 for what takes and tells them."""

import itertools
import unittest

from allbutts.errors import BadRun, BadText, NoPlace
from allbutts.years import (
    Year, backwards, begun_at, is_run, is_runs, opposite, repeated, ring, scaled, swings_of,
)
from tests.helpers import GREAT, ErrorCase, rows_to

PROPERTIES = ("runs", "rain", "draws", "wants", "spare", "swings", "heap", "text")


def all_swings_by_strikes(row):
    """The swings that the strikes of this ring tell, in all orders, straight from the document."""
    if len(row) == 1:
        return {()}
    if len(row) == 2:
        return {(min(abs(row[0]), abs(row[1])),)}
    found = set()
    for place in range(len(row)):
        run, behind, *rest, ahead = row[place:] + row[:place]
        if abs(run) <= min(abs(ahead), abs(behind)):
            for swings in all_swings_by_strikes((ahead + run + behind, *rest)):
                found.add(tuple(sorted(swings + (abs(run),), reverse=True)))
    return found


def bought_in_the_long_run(runs, butt):
    """What the last one of many years buys with a butt of this size, walked run by run."""
    level = 0
    for _ in range(30):
        bought = 0
        for run in runs:
            bought += max(0, -(level + run))
            level = max(0, min(butt, level + run))
    return bought


def first_size(runs):
    """The size of the first run of the ring, of runs that begin where it begins."""
    return sum(abs(run) for run in itertools.takewhile(lambda run: run * runs[0] > 0, runs))


class ExamplesTest(ErrorCase, unittest.TestCase):
    def test_properties(self):
        one = Year((3, -1, 2, -4))
        told = (one.runs, one.rain, one.draws, one.wants, one.spare, one.swings, one.heap, one.text, len(one))
        self.assertEqual(told, ((3, -1, 2, -4), 5, 5, 0, 0, (4, 1), (0, (4, 1)), "+3 -1 +2 -4", 4))

    def test_a_dry_year(self):
        dry = Year.of("+2 -3 -1 +5 -9 +1")
        self.assertEqual((dry.wants, dry.spare, dry.swings), (5, 0, (5, 3)))
        self.assertEqual(ring(dry), (-4, 5, -9, 3))
        self.assertEqual((swings_of((2, 5)), Year((2, 5)).heap, ring(Year((2, 5)))), ((), (0, ()), (7,)))

    def test_made_of_others(self):
        one, dry = Year((3, -1, 2, -4)), Year.of("+2 -3 -1 +5 -9 +1")
        self.assertEqual(begun_at(dry, 2).text, "-1 +5 -9 +1 +2 -3")
        self.assertEqual(backwards(one).text, "-4 +2 -1 +3")
        self.assertEqual(opposite(one).text, "-3 +1 -2 +4")
        self.assertEqual((one + Year((7,))).text, "+3 -1 +2 -4 +7")
        self.assertEqual(scaled(one, 3).swings, (12, 3))
        self.assertEqual(repeated(one, 2).swings, (4, 4, 1, 1))
        self.assertTrue(Year.of(one.text) == one)

    def test_kinds(self):
        self.assertEqual([is_run(-3), is_run(0), is_runs((3, -1)), is_runs(())], [True, False, True, False])

    def test_errors(self):
        self.assert_raised(BadRun, {"place": 1}, Year, (3, 0, -1))
        self.assert_raised(BadText, {"piece": 1}, Year.of, "+3 1 -2")
        self.assert_raised(NoPlace, {"number": 4}, begun_at, Year((3, -1, 2, -4)), 4)


class YearTest(ErrorCase, unittest.TestCase):
    def test_the_first_zero_is_told(self):
        self.assert_raised(BadRun, {"place": 0}, Year, (0,))
        self.assert_raised(BadRun, {"place": 2}, Year, (1, 2, 0, 0))
        self.assert_raised(BadRun, {"place": 39}, Year, [1] * 39 + [0])
        self.assert_raised(BadRun, {"place": 1}, Year, runs=[5, 0])

    def test_what_it_wants_and_spares(self):
        for runs in rows_to(4, 3):
            year = Year(runs)
            self.assertEqual(year.rain, sum(run for run in runs if run > 0))
            self.assertEqual(year.draws, -sum(run for run in runs if run < 0))
            self.assertEqual(year.wants, max(0, -sum(runs)))
            self.assertEqual(year.spare, max(0, sum(runs)))
            self.assertEqual(year.heap, (year.wants, year.swings))
            self.assertEqual(len(year), len(runs))

    def test_one_run(self):
        rain, watering = Year((7,)), Year((-7,))
        self.assertEqual([getattr(rain, name) for name in PROPERTIES], [(7,), 7, 0, 0, 7, (), (0, ()), "+7"])
        self.assertEqual([getattr(watering, name) for name in PROPERTIES], [(-7,), 0, 7, 7, 0, (), (7, ()), "-7"])

    def test_great_numbers(self):
        year = Year((GREAT, -1, 1, -GREAT, -GREAT))
        self.assertEqual(year.heap, (GREAT, (GREAT, 1)))
        self.assertEqual((year.rain, year.draws), (GREAT + 1, 2 * GREAT + 1))
        self.assertEqual(ring(year), (GREAT, -1, 1, -2 * GREAT))
        self.assertEqual(scaled(Year((1, -2)), GREAT).runs, (GREAT, -2 * GREAT))

    def test_kinds_of_what_is_told(self):
        year = Year([3, -1, 2, -4])
        for told in (year.runs, year.swings, year.heap, year.heap[1], ring(year), swings_of([3, -1])):
            self.assertIs(type(told), tuple)

    def test_no_setters(self):
        year = Year((3, -1))
        for name in PROPERTIES:
            with self.subTest(name), self.assertRaises(AttributeError):
                setattr(year, name, 1)
        self.assertEqual(year.runs, (3, -1))

    def test_what_is_handed_in_is_copied_and_left(self):
        runs = [3, -1, 2, -4]
        year = Year(runs)
        self.assertEqual(runs, [3, -1, 2, -4])
        runs[0] = 9
        runs.append(5)
        self.assertEqual((year.runs, year.heap, len(year)), ((3, -1, 2, -4), (0, (4, 1)), 4))

    def test_equal(self):
        one = Year((3, -1))
        self.assertTrue(one == Year([3, -1]))
        self.assertFalse(one != Year((3, -1)))
        for other in (Year((-1, 3)), Year((3, -1, 3)), Year((2,)), (3, -1), [3, -1], "+3 -1", None, 2):
            self.assertFalse(one == other)
            self.assertTrue(one != other)
        # Neighbours of one sign are joined in the ring alone.
        self.assertFalse(Year((1, 1)) == Year((2,)))

    def test_no_iteration(self):
        year = Year((3, -1))
        for call in (iter, list, tuple, sum, sorted):
            with self.subTest(call), self.assertRaises(TypeError):
                call(year)
        with self.assertRaises(TypeError):
            for _ in year:
                pass

    def test_added(self):
        one, other = Year((3, -1)), Year((-2, 5))
        self.assertEqual((one + other).runs, (3, -1, -2, 5))
        self.assertEqual((other + one).runs, (-2, 5, 3, -1))
        self.assertEqual((one + one).swings, (1, 1))
        self.assertEqual((one.runs, other.runs), ((3, -1), (-2, 5)))
        self.assertEqual(len(Year((1,) * 20) + Year((-1,) * 20)), 40)
        self.assertIs(type(one + other), Year)


class TextTest(ErrorCase, unittest.TestCase):
    def test_right_texts(self):
        self.assertEqual(Year.of("+3").runs, (3,))
        self.assertEqual(Year.of(text="-12 -1 +100").runs, (-12, -1, 100))
        self.assertEqual(Year.of("+" + str(GREAT) + " -" + "9" * 40).runs, (GREAT, -int("9" * 40)))
        self.assertEqual(Year.of(" ".join(["+2", "-1"] * 20)).runs, (2, -1) * 20)
        self.assertIs(type(Year.of("+3")), Year)

    def test_back_and_forth(self):
        for runs in [(1,), (-1,), (3, -1, 2, -4), (GREAT, -GREAT), (5, 5, -100), (1, -1) * 20]:
            self.assertEqual(Year.of(Year(runs).text).runs, runs)

    def test_wrong_pieces(self):
        wrong = [
            "", "3", "+", "-", "+0", "-0", "+03", "-01", "+-3", "--3", "++3", "3+", "+3,", "+1_0", "+3\n", "+3\t-1",
            "+x", "+\u0663", "+\u00b2", "\u22123",
        ]
        for text in wrong:
            with self.subTest(text):
                self.assert_raised(BadText, {"piece": 0}, Year.of, text)
                self.assert_raised(BadText, {"piece": 2}, Year.of, "+1 -1 " + text + " 0")

    def test_blanks_make_pieces(self):
        self.assert_raised(BadText, {"piece": 0}, Year.of, "    ")
        self.assert_raised(BadText, {"piece": 0}, Year.of, " +3")
        self.assert_raised(BadText, {"piece": 1}, Year.of, "+3 ")
        self.assert_raised(BadText, {"piece": 1}, Year.of, "+3  -1")

    def test_more_than_forty_pieces(self):
        right = ["+1"] * 40
        for more in (["+1"], ["1"], [""], ["", ""], ["+1"] * 9 + ["0"]):
            with self.subTest(more):
                self.assert_raised(BadText, {"piece": 40}, Year.of, " ".join(right + more))

    def test_a_wrong_piece_goes_ahead_of_too_many(self):
        self.assert_raised(BadText, {"piece": 39}, Year.of, " ".join(["+1"] * 39 + ["1", "+1"]))
        self.assert_raised(BadText, {"piece": 0}, Year.of, " ".join(["x"] * 60))
        self.assert_raised(BadText, {"piece": 39}, Year.of, " ".join(["+1"] * 39 + [""]))


class RingTest(unittest.TestCase):
    def test_where_it_begins(self):
        self.assertEqual(ring(Year((3, -1))), (3, -1))
        self.assertEqual(ring(Year((-3, 1))), (-3, 1))
        self.assertEqual(ring(Year((3, -1, 2))), (-1, 5))
        self.assertEqual(ring(Year((3, 4, -1, 2))), (-1, 9))
        self.assertEqual(ring(Year((1, 2, -1, -2, 3, -3))), (3, -3, 3, -3))
        self.assertEqual(ring(Year((-1, 1, 1, -2, -2))), (2, -5))

    def test_one_sign(self):
        self.assertEqual(ring(Year((5,))), (5,))
        self.assertEqual(ring(year=Year((-1, -2, -3))), (-6,))
        self.assertEqual(ring(Year((1,) * 40)), (40,))

    def test_signs_alternate_and_nothing_is_lost(self):
        for runs in rows_to(5, 2):
            told = ring(Year(runs))
            self.assertEqual(sum(told), sum(runs))
            if len(told) > 1:
                for place, run in enumerate(told):
                    self.assertLess(run * told[place - 1], 0)
                begin = [at for at, run in enumerate(runs) if run * runs[at - 1] < 0][0]
                self.assertGreater(told[0] * runs[begin], 0)
                self.assertEqual(abs(told[0]), first_size(runs[begin:] + runs[:begin]))


class SwingsTest(unittest.TestCase):
    def test_whatever_is_struck(self):
        for runs in rows_to(5, 3):
            self.assertEqual({swings_of(runs)}, all_swings_by_strikes(ring(Year(runs))), runs)

    def test_whatever_is_struck_in_longer_rings(self):
        for sizes in [(5, 2, 3, 4, 1, 3), (4, 4, 4, 4, 4, 4), (1, 9, 2, 8, 3, 7, 4, 6), (3, 1, 3, 2, 3, 1, 3, 3)]:
            runs = tuple(size * (-1) ** place for place, size in enumerate(sizes))
            self.assertEqual({swings_of(runs)}, all_swings_by_strikes(runs), runs)

    def test_they_tell_what_is_bought(self):
        for runs in rows_to(4, 3):
            year = Year(runs)
            for butt in range(8):
                told = year.wants + sum(max(0, swing - butt) for swing in year.swings)
                self.assertEqual(told, bought_in_the_long_run(runs, butt), (runs, butt))

    def test_they_come_to_the_lesser_one_of_rain_and_draws(self):
        for runs in rows_to(5, 2):
            year = Year(runs)
            self.assertEqual(sum(year.swings), min(year.rain, year.draws))
            self.assertEqual(list(year.swings), sorted(year.swings, reverse=True))
            self.assertEqual(year.swings, swings_of(runs))
            self.assertEqual(len(year.swings), len(ring(year)) // 2)

    def test_single_ones(self):
        self.assertEqual(swings_of((5,)), ())
        self.assertEqual(swings_of([-5, -5]), ())
        self.assertEqual(swings_of((7, -9)), (7,))
        self.assertEqual(swings_of(runs=[-9, 7]), (7,))
        self.assertEqual(swings_of((5, -2, 3, -4, 1, -3)), (6, 2, 1))
        self.assertEqual(swings_of((2, -2, 2, -2)), (2, 2))
        self.assertEqual(swings_of((GREAT, -GREAT, GREAT, -GREAT)), (GREAT, GREAT))

    def test_forty_runs(self):
        self.assertEqual(swings_of((1, -1) * 20), (1,) * 20)
        self.assertEqual(swings_of((3, -1, 2, -4) * 10), (4,) * 10 + (1,) * 10)
        # The 1 goes first, between 40 and 2, then the 3, and so on.
        growing = tuple(size * (-1) ** size for size in range(1, 41))
        self.assertEqual(swings_of(growing), tuple(range(39, 0, -2)))

    def test_a_list_is_left_as_it_is(self):
        runs = [2, 3, -1, 4]
        swings_of(runs)
        self.assertEqual(runs, [2, 3, -1, 4])


class OthersTest(ErrorCase, unittest.TestCase):
    def test_begun_at(self):
        year = Year((3, -1, 2, -4))
        self.assertEqual([begun_at(year, place).runs for place in range(4)], [
            (3, -1, 2, -4), (-1, 2, -4, 3), (2, -4, 3, -1), (-4, 3, -1, 2),
        ])
        self.assertEqual(begun_at(year=year, place=1).runs, (-1, 2, -4, 3))
        for place in (4, 5, GREAT, -1, -4, -GREAT):
            self.assert_raised(NoPlace, {"number": place}, begun_at, year, place)

    def test_turned_and_changed(self):
        year = Year((3, 3, -5))
        self.assertEqual(backwards(year=year).runs, (-5, 3, 3))
        self.assertEqual(opposite(year=year).runs, (-3, -3, 5))
        self.assertEqual(repeated(year=year, number=2).runs, (3, 3, -5, 3, 3, -5))
        self.assertEqual(scaled(year=year, number=7).runs, (21, 21, -35))
        self.assertEqual(repeated(Year((2,)), 40).runs, (2,) * 40)
        self.assertEqual(repeated(year, 1), year)
        self.assertEqual(scaled(year, 1), year)
        self.assertEqual(year.runs, (3, 3, -5))

    def test_years_are_told(self):
        year = Year((3, -1))
        for told in (begun_at(year, 1), backwards(year), opposite(year), repeated(year, 2), scaled(year, 2)):
            self.assertIs(type(told), Year)

    def test_swings_stay(self):
        for runs in rows_to(4, 3):
            year = Year(runs)
            self.assertEqual(backwards(year).swings, year.swings)
            self.assertEqual(opposite(year).swings, year.swings)
            for place in range(len(year)):
                self.assertEqual(begun_at(year, place).swings, year.swings)

    def test_swings_repeated_and_scaled(self):
        for runs in rows_to(4, 2):
            year = Year(runs)
            thrice = tuple(sorted(year.swings * 3, reverse=True))
            self.assertEqual(repeated(year, 3).swings, thrice)
            self.assertEqual(scaled(year, 5).swings, tuple(5 * swing for swing in year.swings))


class KindsTest(unittest.TestCase):
    def test_runs(self):
        for thing in (1, -1, 40, GREAT, -GREAT, 10 ** 400, -10 ** 400):
            self.assertIs(is_run(thing), True)
        for thing in (0, True, False, None, "", "3", "+3", (), (3,), [3], [], [[3]]):
            self.assertIs(is_run(thing), False)

    def test_rows_of_runs(self):
        for thing in ((1,), (-1,), (3, -1), (1, 1), (GREAT,), (10 ** 400, -1), (2,) * 5000):
            self.assertIs(is_runs(thing), True)
        for thing in (
            (), (0,), (1, 0), (0, 1), (1, True), (False,), [1], [], [3, -1], ((1,),), (1, (2,)), (1, [2]), (None,),
            ("1",), "1", "+3 -1", 1, None, True, (1,) * 5000 + (0,),
        ):
            self.assertIs(is_runs(thing), False)

    def test_names_and_depth(self):
        deep = 3
        for _ in range(12):
            deep = (deep,)
        self.assertIs(is_runs(deep), False)
        self.assertIs(is_run(deep), False)
        self.assertIs(is_run(thing=3), True)
        self.assertIs(is_runs(thing=(3,)), True)


if __name__ == "__main__":
    unittest.main()

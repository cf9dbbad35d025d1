"""Promise 7: rings and strikes, and promise 2 for what judges and does them."""

import itertools
import unittest

from allbutts.errors import NoPlace, NoStrike
from allbutts.strikes import (
    can_strike, first_strikes, how_many_strikes, is_ring, is_strikes, left_by, strikes, struck, swings, swings_by,
)
from allbutts.years import Year, ring, swings_of
from tests.helpers import DEEP, GREAT, NO_NUMBERS, CallCase, ErrorCase, rows_to

YEAR = Year((5, -2, 3, -4, 1, -3))
SIX = [(5, -2, 3, -4, 1, -3), (4, -4, 4, -4, 4, -4), (1, -9, 2, -8, 3, -7), (3, -1, 3, -1, 3, -1), (2, -2, 1, -1, 2, -2)]


def rings_to(many, size):
    """All rings of at most so many runs, of sizes to this one."""
    for half in range(1, many // 2 + 1):
        for sizes in itertools.product(range(1, size + 1), repeat=2 * half):
            for sign in (1, -1):
                yield tuple(sign * size * (-1) ** place for place, size in enumerate(sizes))


def struck_straight(row, place):
    """The ring behind a strike, straight from the document; None if the run can not be struck."""
    if len(row) < 4:
        return None
    turned = row[place:] + row[:place]
    ahead, run, behind = turned[-1], turned[0], turned[1]
    if abs(run) > abs(ahead) or abs(run) > abs(behind):
        return None
    return (ahead + run + behind,) + turned[2:-1]


def all_strikes(row):
    """All strikes of a ring, with the sizes that they strike and the ring that they leave."""
    if len(row) <= 2:
        return [((), (), row)]
    found = []
    for place in range(len(row)):
        behind = struck_straight(row, place)
        if behind is not None:
            for places, sizes, left in all_strikes(behind):
                found.append(((place,) + places, (abs(row[place]),) + sizes, left))
    return found


def years_to_strike():
    """Years of all kinds whose strikes are all tried."""
    return [Year(runs) for runs in list(rows_to(4, 2)) + list(rings_to(4, 3)) + SIX + [(1, -1) * 4, (9, -7, 5, -3) * 2]]


class ExamplesTest(ErrorCase, unittest.TestCase):
    def test_rings(self):
        things = (3, -1, 2, -4), (3, -1, 2), (5,), (3, 1), (0,), [3, -3]
        self.assertEqual([is_ring(thing) for thing in things], [True, False, True, False, False, False])

    def test_single_strikes(self):
        told = [can_strike((3, -1, 2, -4), place) for place in range(4)]
        self.assertEqual(told, [False, True, False, False])
        self.assertEqual((struck((3, -1, 2, -4), 1), can_strike((4, -4), 0)), ((4, -4), False))
        self.assertEqual((struck((2, -3, 3, -2), 0), struck((2, -3, 3, -2), 3)), ((-3, 3), (3, -3)))

    def test_strikes(self):
        self.assertEqual((first_strikes(YEAR), how_many_strikes(YEAR), swings(YEAR)), ((1, 2), 2, (6, 2, 1)))
        told = [is_strikes(YEAR, thing) for thing in ((4, 2), (4, 1), (1,), strikes(YEAR))]
        self.assertEqual(told, [True, False, False, True])

    def test_what_they_strike_and_leave(self):
        self.assertEqual([swings_by(YEAR, row) for row in ((1, 2), (4, 2), (4,))], [(2, 1, 6), (1, 2, 6), (1,)])
        told = [left_by(YEAR, row) for row in ((4,), (1, 2), ())]
        self.assertEqual(told, [(-6, 5, -2, 3), (-6, 6), (5, -2, 3, -4, 1, -3)])

    def test_small_rings(self):
        told = swings(Year((2, 3, -1))), swings(Year((2, 3))), first_strikes(Year((2, 3))), swings_by(Year((7, -9)), ())
        self.assertEqual(told, ((1,), (), (), (7,)))

    def test_errors(self):
        self.assert_raised(NoStrike, {"place": 2}, struck, (3, -1, 2, -4), 2)
        self.assert_raised(NoPlace, {"number": 4}, left_by, YEAR, (1, 4))


class RingsTest(CallCase, ErrorCase, unittest.TestCase):
    def test_rings_and_nothing_else(self):
        self.assert_yes(is_ring, (), ((1,), (-1,), (1, -1), (-GREAT, GREAT), (1, -1) * 500, (10 ** 50, -1)))
        for length in range(2, 5):
            for runs in itertools.product((-2, -1, 0, 1, 2), repeat=length):
                right = all(run * runs[place - 1] < 0 for place, run in enumerate(runs))
                self.assertIs(is_ring(runs), right, runs)

    def test_other_things(self):
        wrong = [(1, True), (True,), (1, -1, 1, False), [1], [1, -1], (1, -1) * 500 + (1,), ((1, -1),), ("1",), "+1 -1"]
        self.assert_no(is_ring, (), wrong + [DEEP, 1, 5, -3] + [thing for thing in NO_NUMBERS if thing != (1,)])
        self.assert_no(is_ring, (), [(), (None,), (1, None), (1, (-1,)), (0, 0), (1, 0)])

    def test_each_place(self):
        for row in list(rings_to(4, 3)) + SIX + [(1,), (-5,)]:
            for place in range(len(row)):
                behind = struck_straight(row, place)
                self.assertIs(can_strike(row, place), behind is not None)
                if behind is None:
                    self.assert_raised(NoStrike, {"place": place}, struck, row, place)
                else:
                    self.assertEqual(struck(row, place), behind)
                    self.assertIs(is_ring(behind), True)

    def test_equal_sizes_can_be_struck(self):
        self.assertEqual([can_strike((2, -2, 2, -2), place) for place in range(4)], [True] * 4)
        self.assertEqual(struck((2, -2, 2, -2), 3), (2, -2))
        self.assertEqual([can_strike((2, -2, 3, -3), place) for place in range(4)], [True, True, False, False])

    def test_places_that_are_not_there(self):
        for row in ((5,), (4, -4), (3, -1, 2, -4)):
            for place in (-1, -2, -len(row), len(row), len(row) + 1, GREAT, -GREAT):
                self.assert_raised(NoPlace, {"number": place}, can_strike, row, place)
                self.assert_raised(NoPlace, {"number": place}, struck, row, place)

    def test_rings_of_one_and_two(self):
        for row in ((5,), (-5,), (4, -4), (1, -9)):
            for place in range(len(row)):
                self.assertIs(can_strike(row, place), False)
                self.assert_raised(NoStrike, {"place": place}, struck, row, place)

    def test_great_sizes(self):
        self.assertEqual(struck((GREAT, -GREAT, GREAT, -1), 1), (GREAT, -1))
        self.assertEqual(struck((GREAT, -1, GREAT, -GREAT), 1), (2 * GREAT - 1, -GREAT))

    def test_how_they_are_called(self):
        self.assert_told(True, can_strike, ring=(3, -1, 2, -4), place=1)
        self.assert_told((4, -4), struck, ring=(3, -1, 2, -4), place=1)
        self.assert_raised(NoStrike, {"place": 2}, struck, ring=[3, -1, 2, -4], place=2)
        self.assert_raised(NoPlace, {"number": -1}, can_strike, ring=[3, -1, 2, -4], place=-1)


class StrikesTest(CallCase, ErrorCase, unittest.TestCase):
    def test_all_strikes(self):
        for year in years_to_strike():
            found = all_strikes(ring(year))
            places = [row for row, _, _ in found]
            self.assertEqual(how_many_strikes(year), len(found), year.runs)
            self.assertEqual(first_strikes(year), min(places))
            self.assertIn(strikes(year), places)
            for row, sizes, left in found:
                self.assertIs(is_strikes(year, row), True)
                self.assertEqual(left_by(year, row), left)
                self.assertEqual(swings_by(year, row), sizes + ((min(map(abs, left)),) if len(left) == 2 else ()))
                told = tuple(sorted(swings_by(year, row), reverse=True))
                self.assertEqual(told, swings(year))

    def test_strikes_and_nothing_else(self):
        for year in years_to_strike():
            if len(ring(year)) <= 6:
                right = {row for row, _, _ in all_strikes(ring(year))}
                for length in range(4):
                    for thing in itertools.product(range(-1, 7), repeat=length):
                        self.assertIs(is_strikes(year, thing), thing in right, (year.runs, thing))

    def test_other_things(self):
        wrong = [[4, 2], (4, True), (True, 2), (4, 2, 0), (4, (2,)), (4, None), (4, "2"), ((4, 2),), (4, 2) * 999]
        self.assert_no(is_strikes, (YEAR,), wrong + [(-2, 2), (4, -2), (GREAT, 2), (4, 2 + GREAT), DEEP, "42", 4])
        self.assert_no(is_strikes, (YEAR,), NO_NUMBERS)
        small = Year((7, -9))
        self.assert_yes(is_strikes, (small,), [()])
        self.assert_no(is_strikes, (small,), [[], None, "", 0, False, (0,), (1,), ((),)])

    def test_the_beginning_of_strikes(self):
        self.assertEqual(swings_by(YEAR, ()), ())
        self.assertEqual(swings_by(YEAR, (1,)), (2,))
        self.assertEqual(left_by(YEAR, (1,)), (6, -4, 1, -3))
        self.assertEqual(swings_by(Year((3,)), ()), ())
        self.assertEqual(left_by(Year((3, 4)), ()), (7,))

    def test_the_first_wrong_place_is_told(self):
        for call in (left_by, swings_by):
            self.assert_raised(NoPlace, {"number": 6}, call, YEAR, (6, 0))
            self.assert_raised(NoPlace, {"number": -1}, call, YEAR, (-1,))
            self.assert_raised(NoStrike, {"place": 0}, call, YEAR, (0, 9))
            self.assert_raised(NoStrike, {"place": 1}, call, YEAR, (4, 1))
            self.assert_raised(NoPlace, {"number": 4}, call, YEAR, (4, 4))
            # Two runs are left, so nothing can be struck any more.
            self.assert_raised(NoStrike, {"place": 1}, call, YEAR, (4, 2, 1))
            self.assert_raised(NoPlace, {"number": 2}, call, YEAR, (4, 2, 2))
            self.assert_raised(NoStrike, {"place": 0}, call, Year((5,)), (0,))
            self.assert_raised(NoPlace, {"number": 1}, call, year=Year((5,)), strikes=[1])

    def test_swings(self):
        for runs in rows_to(5, 2):
            year = Year(runs)
            told = swings(year)
            self.assertEqual(told, year.swings)
            self.assertEqual(told, swings_of(runs))
            self.assertEqual(len(told), len(ring(year)) // 2)
            self.assertEqual(sum(told), min(year.rain, year.draws))

    def test_long_and_great_years(self):
        year = Year((3, -1, 2, -4) * 10)
        self.assertEqual(swings(year), (4,) * 10 + (1,) * 10)
        self.assertIs(is_strikes(year, strikes(year)), True)
        great = Year((GREAT, -1, GREAT, -GREAT))
        self.assertEqual((swings(great), swings_by(great, (1,)), left_by(great, (1,))), (
            (GREAT, 1), (1, GREAT), (2 * GREAT - 1, -GREAT),
        ))

    def test_how_many(self):
        self.assertEqual([how_many_strikes(Year(runs)) for runs in ((5,), (-1, -2), (3, -3), (2, -9))], [1] * 4)
        # All of one size: any place, and again any place of what is left.
        self.assertEqual([how_many_strikes(Year((7, -7) * many)) for many in (2, 3, 4, 5)], [4, 24, 192, 1920])

    def test_how_they_are_called(self):
        self.assert_told((6, 2, 1), swings, year=YEAR)
        self.assert_told((1, 2), first_strikes, year=YEAR)
        self.assert_told(strikes(YEAR), strikes, year=YEAR)
        self.assert_told(2, how_many_strikes, year=YEAR)
        self.assert_told((-6, 5, -2, 3), left_by, year=YEAR, strikes=(4,))
        self.assert_told((5, -2, 3, -4, 1, -3), left_by, year=YEAR, strikes=())
        self.assert_told((1, 2, 6), swings_by, year=YEAR, strikes=(4, 2))
        self.assertIs(is_strikes(year=YEAR, thing=(4, 2)), True)


if __name__ == "__main__":
    unittest.main()

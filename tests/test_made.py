"""Promise 12: years that are made with given swings, and promise 2 for what makes and judges them."""

import itertools
import unittest

from allbutts.made import all_made, fewest_runs, how_many_made, is_made, made
from allbutts.years import Year, begun_at, opposite
from tests.helpers import GREAT, CallCase, rows_to, swings_to

NONE = [(0, 0, ()), (1, 1, ()), (1, 1, (2,)), (GREAT, 1, ()), (2, 3, (4, 1)), (1, 9, (5, 5, 5))]


def rows_by_turns(many, size):
    """All rows of so many runs by turns, of sizes to this one."""
    for sizes in itertools.product(range(1, size + 1), repeat=many):
        row = tuple(size * (-1) ** place for place, size in enumerate(sizes))
        yield row
        yield tuple(-run for run in row)


def found_among(rows):
    """The rows by what their years want and spare and by their swings."""
    found = {}
    for row in rows:
        year = Year(row)
        found.setdefault((year.wants, year.spare, year.swings), []).append(row)
    return found


class ExamplesTest(unittest.TestCase):
    def test_fewest(self):
        calls = (0, 0, (4, 1)), (5, 0, ()), (0, 0, ()), (1, 1, (2,)), (0, 7, (2, 2, 2))
        self.assertEqual([fewest_runs(*call) for call in calls], [4, 1, None, None, 6])

    def test_made(self):
        year = made(2, 0, (4, 1))
        self.assertEqual((year.wants, year.spare, year.swings, len(year)), (2, 0, (4, 1), 4))
        self.assertEqual((made(5, 0, ()).runs, made(0, 3, ()).runs, made(1, 1, ())), ((-5,), (3,), None))
        self.assertIs(is_made(2, 0, (4, 1), year), True)

    def test_is_made(self):
        self.assertIs(is_made(0, 0, (2, 1), Year((2, -1, 1, -2))), True)
        self.assertIs(is_made(0, 0, (2, 1), Year((1, 1, -1, 1, -2))), False)
        self.assertIs(is_made(0, 1, (2, 1), Year((2, -1, 1, -2))), False)

    def test_how_many(self):
        calls = (0, 0, (2, 1)), (3, 0, (4, 1)), (0, 0, (4,)), (0, 5, ()), (1, 1, (3,)), (0, 0, (GREAT, 1))
        self.assertEqual([how_many_made(*call) for call in calls], [8, 36, 2, 1, 0, 7999999999999999999999999999992])

    def test_all_made(self):
        self.assertEqual(all_made(0, 0, (2, 1)), [
            (-2, 1, -1, 2), (-2, 2, -1, 1), (-1, 1, -2, 2), (-1, 2, -2, 1),
            (1, -2, 2, -1), (1, -1, 2, -2), (2, -2, 1, -1), (2, -1, 1, -2),
        ])
        told = all_made(0, 0, (1, 1)), all_made(2, 0, ()), all_made(0, 0, ())
        self.assertEqual(told, ([(-1, 1, -1, 1), (1, -1, 1, -1)], [(-2,)], []))


class AllRowsTest(unittest.TestCase):
    def test_no_year_has_fewer_runs(self):
        for (wants, spare, swings), rows in found_among(rows_to(5, 2)).items():
            self.assertLessEqual(fewest_runs(wants, spare, swings), min(len(row) for row in rows))
            for row in rows:
                told = is_made(wants, spare, swings, Year(row))
                self.assertIs(told, len(row) == fewest_runs(wants, spare, swings), row)

    def test_one_swing_and_two(self):
        # The runs of one sign come to 8 at the most.
        found = found_among(itertools.chain(rows_by_turns(2, 8), rows_by_turns(4, 7)))
        for wants, spare in ((0, 0), (1, 0), (2, 0), (0, 1), (0, 2)):
            for swings in swings_to(2, 3):
                if swings:
                    self.assertEqual(all_made(wants, spare, swings), sorted(found[wants, spare, swings]))

    def test_three_swings(self):
        # The runs of one sign come to 7 at the most, in three parts.
        found = found_among(rows_by_turns(6, 5))
        for wants, spare in ((0, 0), (1, 0), (0, 1)):
            for swings in swings_to(3, 2):
                if len(swings) == 3:
                    self.assertEqual(all_made(wants, spare, swings), sorted(found[wants, spare, swings]))
        self.assertEqual(all_made(0, 0, (3, 2, 1)), sorted(found[0, 0, (3, 2, 1)]))

    def test_without_swings(self):
        for number in range(1, 10):
            self.assertEqual((all_made(number, 0, ()), all_made(0, number, ())), ([(-number,)], [(number,)]))
            self.assertEqual([how_many_made(number, 0, ()), how_many_made(0, number, ())], [1, 1])
            self.assertEqual([fewest_runs(number, 0, ()), fewest_runs(0, number, ())], [1, 1])

    def test_as_many_as_there_are(self):
        for wants, spare in ((0, 0), (1, 0), (9, 0), (0, 2), (0, 9)):
            for swings in ((1,), (9,), (2, 1), (9, 1), (9, 8), (3, 2, 1), (9, 5, 4), (9, 2, 1)):
                rows = all_made(wants, spare, swings)
                self.assertEqual(len(rows), how_many_made(wants, spare, swings))
                self.assertEqual(rows, sorted(set(rows)))

    def test_all_of_the_greatest(self):
        for swings in ((9, 9, 9), (9, 9, 1), (9, 1, 1), (9, 5, 1)):
            for wants, spare in ((9, 0), (0, 9), (0, 0)):
                rows = all_made(wants, spare, swings)
                self.assertEqual(rows, sorted(set(rows)))
                for row in rows:
                    self.assertIs(type(row), tuple)
                    self.assertIs(is_made(wants, spare, swings, Year(row)), True)
                self.assertIn(made(wants, spare, swings).runs, rows)
                # Turned, they are others of the same kind; with all signs changed, they want what these spare.
                self.assertIn(begun_at(Year(rows[0]), 1).runs, rows)
                others = all_made(spare, wants, swings)
                self.assertEqual(sorted(opposite(Year(row)).runs for row in rows), others)


class MadeTest(CallCase, unittest.TestCase):
    def test_years_that_are_made(self):
        for wants, spare in ((0, 0), (1, 0), (0, 1), (7, 0), (0, 7), (GREAT, 0), (0, GREAT)):
            for swings in [*swings_to(4, 3), (GREAT,), (GREAT, GREAT, 1), (5,) * 20, tuple(range(20, 0, -1))]:
                fewest = fewest_runs(wants, spare, swings)
                year = made(wants, spare, swings)
                if wants + spare == 0 and swings == ():
                    self.assertEqual((fewest, year), (None, None))
                else:
                    self.assertEqual(fewest, 2 * len(swings) if swings else 1)
                    self.assertEqual((year.wants, year.spare, year.swings), (wants, spare, swings))
                    self.assertEqual(len(year), fewest)
                    self.assertIs(is_made(wants, spare, swings, year), True)

    def test_none(self):
        for wants, spare, swings in NONE:
            self.assertIsNone(fewest_runs(wants, spare, swings))
            self.assertIsNone(made(wants, spare, swings))
            self.assertEqual(how_many_made(wants, spare, swings), 0)
            self.assertEqual(all_made(wants, spare, swings), [])
            for year in (Year((-1,)), Year((2, -3)), Year((4, -1, 1, -4))):
                self.assertIs(is_made(wants, spare, swings, year), False)

    def test_years_that_are_none(self):
        year = Year((2, -1, 1, -2))
        for wants, spare, swings in ((1, 0, (2, 1)), (0, 1, (2, 1)), (0, 0, (2,)), (0, 0, (3,)), (0, 0, (2, 2)), (0, 0, ())):
            self.assertIs(is_made(wants, spare, swings, year), False)
        self.assertIs(is_made(0, 0, (2, 1), begun_at(year, 3)), True)
        self.assertIs(is_made(0, 0, (2, 1), year + Year((1, -1))), False)
        self.assertIs(is_made(3, 0, (), Year((-1, -2))), False)
        self.assertIs(is_made(3, 0, (), Year((-3,))), True)

    def test_great_numbers(self):
        self.assertEqual(how_many_made(GREAT, 0, (3,)), 2)
        self.assertEqual(how_many_made(GREAT, 0, (3, 1)), 4 * (GREAT + 4))
        self.assertEqual(how_many_made(0, GREAT, (3, 2, 1)), 6 * (GREAT + 2) * (GREAT + 6))
        told = 40
        for place in range(1, 20):
            told *= place * (place + 1)
        self.assertEqual(how_many_made(0, 0, tuple(range(20, 0, -1))), told)

    def test_how_they_are_called(self):
        self.assert_told(4, fewest_runs, wants=0, spare=0, swings=(4, 1))
        self.assert_told(1, fewest_runs, wants=3, spare=0, swings=())
        self.assert_told(None, made, wants=1, spare=1, swings=(3,))
        self.assert_told(True, is_made, wants=0, spare=0, swings=(2, 1), year=Year((2, -1, 1, -2)))
        self.assert_told(36, how_many_made, wants=3, spare=0, swings=(4, 1))
        self.assert_told([(-1, 1, -1, 1), (1, -1, 1, -1)], all_made, wants=0, spare=0, swings=(1, 1))
        self.assert_told([(-2,)], all_made, wants=2, spare=0, swings=())
        self.assert_told([], all_made, wants=0, spare=0, swings=())
        one = made(2, 0, (4, 1))
        self.assertIs(type(one), Year)
        self.assertEqual(made(wants=2, spare=0, swings=[4, 1]), one)


if __name__ == "__main__":
    unittest.main()

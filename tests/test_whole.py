"""What the document promises over the whole program: what one file says of a thing, all others say of it too."""

import itertools
import random
import unittest

from allbutts.board import Board
from allbutts.changes import Watch, best_for_all, left_out, parted, passed, put_in, worst_for_all
from allbutts.common import apart_heap, bought_on, common_heap, gain, never_gains, year_of
from allbutts.desk import answers
from allbutts.errors import ButtError, NoPlace, NoYear
from allbutts.heaps import (
    above_both, below_both, bought_by_heap, bought_table, first_sums, heap_compare, heap_of, heap_sum, heap_within, is_heap,
    is_swings, is_table, most_over,
)
from allbutts.lead import alike, compare, most_more, never_more, spans_against
from allbutts.longrun import bought, corners, enough, least_butt, rests, saved_by, settles, spilled
from allbutts.made import fewest_runs, is_made, made
from allbutts.most import all_swings, best_order, is_order, least_bought, most_bought, worst_order
from allbutts.parts import bought_by, level_on, part_of, spilled_by, through
from allbutts.ranks import Table
from allbutts.second import is_butts, levels_behind, never_saves_more, run_over, saves, taken_from
from allbutts.steps import gone_by, is_steps, steps, taken
from allbutts.strikes import first_strikes, is_ring, is_strikes, left_by, swings, swings_by
from allbutts.survey import Survey, surveyed
from allbutts.texts import heap_from, heap_text, lines_of, runs_from, runs_text, swings_text
from allbutts.walks import bought_in, is_level, level_after, levels, spilled_in
from allbutts.years import Year, backwards, begun_at, is_runs, opposite, repeated, ring, scaled, swings_of
from tests.helpers import GREAT, rows_to

SMALL = [Year(runs) for runs in rows_to(3, 2)]
BUTTS = (0, 1, 2, 3, 5, 8, 13, GREAT)


def some_years():
    """Years of all lengths, with small and with great RUNs."""
    chance = random.Random(14)
    years = []
    for many in (1, 2, 3, 4, 5, 6, 7, 8, 11, 16, 24, 40):
        for most in (3, 12, GREAT):
            years.append(Year(chance.choice((1, -1)) * chance.randrange(1, most + 1) for _ in range(many)))
    return years


YEARS = some_years()
# Those with small RUNs, of not too many.
FEW = [year for year in YEARS if len(year) <= 8 and year.rain + year.draws < 100]


class LongRunTest(unittest.TestCase):
    def test_walks_parts_and_swings(self):
        for year in YEARS + SMALL:
            many = len(year)
            for butt in BUTTS:
                low, high = rests(year, butt)
                for level in {low, high, (low + high) // 2}:
                    self.assertIs(is_level(butt, level), True)
                    self.assertEqual(level_after(year, butt, level), level)
                    told = bought_in(year, butt, level), spilled_in(year, butt, level)
                    self.assertEqual(told, (bought(year, butt), spilled(year, butt)))
                    self.assertEqual(through(part_of(year.runs, butt), level), (level,) + told)
                    self.assertEqual(settles(year, butt, level), 0)
                self.assertEqual(bought(year, butt), bought_by_heap(year.heap, butt))
                far = settles(year, butt, butt) * many
                self.assertEqual(bought_by(year, butt, butt, far + many) - bought_by(year, butt, butt, far), bought(year, butt))
                self.assertEqual(spilled_by(year, butt, butt, far + many) - spilled_by(year, butt, butt, far), spilled(year, butt))
                self.assertIn(level_on(year, butt, butt, far), (low, high))

    def test_swings(self):
        for year in YEARS + SMALL:
            found = year.swings
            self.assertEqual((swings(year), swings_of(year.runs), year.heap), (found, found, (year.wants, found)))
            self.assertEqual((is_swings(found), is_heap(year.heap), is_ring(ring(year)), is_runs(year.runs)), (True,) * 4)
            row = first_strikes(year)
            self.assertIs(is_strikes(year, row), True)
            self.assertLessEqual(len(left_by(year, row)), 2)
            self.assertEqual(sorted(swings_by(year, row), reverse=True), list(found))
            self.assertEqual(sum(found), min(year.rain, year.draws))
            for other in (backwards(year), opposite(year), begun_at(year, len(year) - 1)):
                self.assertEqual(other.swings, found)
            if len(year) <= 20:
                self.assertEqual(repeated(year, 2).swings, tuple(swing for swing in found for _ in range(2)))
            self.assertEqual(scaled(year, 3).swings, tuple(3 * swing for swing in found))

    def test_what_the_opposite_spills(self):
        for year in YEARS + SMALL:
            for butt in BUTTS:
                self.assertEqual(spilled(opposite(year), butt), bought(year, butt))

    def test_butts_for_it(self):
        for year in YEARS + SMALL:
            for butt, number in corners(year):
                self.assertEqual(bought(year, butt), number)
                self.assertEqual(least_butt(year, number), butt)
            self.assertEqual((corners(year)[-1][0], corners(year)[-1][1]), (enough(year), year.wants))

    def test_tables(self):
        for year in FEW + SMALL:
            most = max((1,) + year.swings)
            table = bought_table(year.heap, most)
            self.assertEqual((is_table(table), heap_of(table)), (True, year.heap))
            self.assertEqual(table, tuple(bought(year, butt) for butt in range(most + 1)))

    def test_texts(self):
        for year in YEARS + SMALL:
            self.assertEqual((Year.of(year.text), runs_from(year.text), runs_text(year.runs)), (year, year.runs, year.text))
            self.assertEqual(heap_from(heap_text(year.heap)), year.heap)


class LeadsTest(unittest.TestCase):
    def test_all_that_tell_who_never_buys_more(self):
        for one, other in [*itertools.product(SMALL[::3], repeat=2), *itertools.product(YEARS, repeat=2)]:
            right = never_more(one, other)
            many = max(len(one.swings), len(other.swings))
            sums = zip(first_sums(one.heap, many), first_sums(other.heap, many))
            self.assertEqual(right, all(mine <= yours for mine, yours in sums))
            self.assertEqual(right, heap_within(one.heap, other.heap))
            self.assertEqual(right, spans_against(one, other) == ())
            self.assertEqual(right, most_more(one, other) <= 0)
            self.assertEqual(right, compare(one, other) in ("less", "alike"))
            numbers = [line.partition(": ")[2].split(" and ") for line in lines_of(one, other)]
            self.assertEqual(right, all(int(mine) <= int(yours) for mine, yours in numbers))
            self.assert_steps(one, other, right)

    def assert_steps(self, one, other, right):
        row = steps(one.heap, other.heap)
        self.assertEqual(right, row is not None)
        if right:
            self.assertEqual((taken(other.heap, row), is_steps(one.heap, other.heap, row)), (one.heap, True))
            self.assertEqual(gone_by(row), bought(other, 0) - bought(one, 0))
            # No step on the way ever lets more be bought.
            heap = other.heap
            for step in row:
                behind = taken(heap, (step,))
                self.assertIs(heap_within(behind, heap), True)
                heap = behind

    def test_tables_boards_and_desks(self):
        chance = random.Random(15)
        for _ in range(25):
            years = dict(zip("abcd", chance.sample(FEW + SMALL, 4)))
            table, board, asked = Table(list(years.items())), Board(), []
            for name, year in years.items():
                board.put(name, year)
                asked.append(f"year {name} {year.text}")
            pairs = list(itertools.product(years, repeat=2))
            told = answers("\n".join(asked + [f"never {name} {to}" for name, to in pairs] + [f"heap {name}" for name in years]))
            self.assertEqual(told[-4:], [heap_text(year.heap) for year in years.values()])
            for (name, to), answer in zip(pairs, told[4:]):
                right = never_more(years[name], years[to])
                self.assertEqual((table.is_never_more(name, to), board.never_more(name, to)), (right, right))
                self.assertEqual((answer, table.excess_of(name, to) == 0), ("yes" if right else "no", right))
                lead = Watch(years[name], years[to]).leads[0]
                self.assertEqual(max(0, lead), table.excess_of(name, to))
                self.assertEqual(name in table.below(to), compare(years[name], years[to]) == "less")
            self.assert_bounds(table, years)

    def assert_bounds(self, table, years):
        above, below = table.bound_above(table.names), table.bound_below(table.names)
        for butt in range(12):
            self.assertEqual(bought_by_heap(above, butt), max(bought(year, butt) for year in years.values()))
        for year in years.values():
            self.assertIs(heap_within(below, year.heap), True)
            self.assertIs(is_steps(below, year.heap, steps(below, year.heap)), True)
        self.assertEqual(table.within(above), table.names)
        for low, high in zip(table.chain(), table.chain()[1:]):
            self.assertIsNotNone(steps(years[low].heap, years[high].heap))
            self.assertIsNone(steps(years[high].heap, years[low].heap))

    def test_bounds_of_two(self):
        for one, other in itertools.combinations(YEARS, 2):
            table = Table((("a", one), ("b", other)))
            self.assertEqual(table.bound_above(("a", "b")), above_both(one.heap, other.heap))
            self.assertEqual(table.bound_below(("a", "b")), below_both(one.heap, other.heap))
            told = {"less": (("a", "b"), ("a",)), "more": (("b", "a"), ("a",)), "alike": (("a",), ("a",))}
            right = told.get(heap_compare(one.heap, other.heap), (("a",), ("a", "b")))
            self.assertEqual((table.chain(), table.apart()), right)

    def test_saving_more(self):
        # If a second butt never saves more in a year that wants no more, it buys no more.
        for one, other in itertools.product(YEARS + SMALL[::5], repeat=2):
            if never_saves_more(one, other) and one.wants <= other.wants:
                self.assertIs(never_more(one, other), True)


class MadeTest(unittest.TestCase):
    def test_years_that_are_made(self):
        for year in YEARS + SMALL:
            wants, spare, found = year.wants, year.spare, year.swings
            if wants + spare > 0 or found:
                other = made(wants, spare, found)
                self.assertIs(is_made(wants, spare, found, other), True)
                self.assertEqual((alike(year, other), other.spare, len(other)), (True, spare, fewest_runs(wants, spare, found)))
                self.assertLessEqual(len(other), len(year))
                if found:
                    self.assertEqual(len(ring(year)), len(other))
                told = answers(f"fewest {wants} {spare} {swings_text(found)}")
                self.assertEqual(told, [str(len(other))])

    def test_made_of_bounds(self):
        for one, other in itertools.combinations(FEW, 2):
            for heap in (below_both(one.heap, other.heap), above_both(one.heap, other.heap), heap_sum(one.heap, other.heap)):
                if heap != (0, ()):
                    year = made(heap[0], 0, heap[1])
                    self.assertEqual((year.heap, year.spare), (heap, 0))


class GardensTest(unittest.TestCase):
    def test_days_of_years(self):
        for year in YEARS + SMALL:
            days = tuple(number for run in year.runs for number in (run, 0))
            self.assertEqual((year_of(days), year_of(year.runs)), (year, year))
            nothing, same = (0,) * len(year), scaled(year, 2)
            self.assertEqual((common_heap(year.runs, nothing), apart_heap(year.runs, nothing)), (year.heap, year.heap))
            self.assertIs(never_gains(year.runs, nothing), True)
            # Two like gardens save nothing, two opposite ones all.
            self.assertEqual((common_heap(year.runs, year.runs), apart_heap(year.runs, year.runs)), (same.heap, same.heap))
            self.assertEqual(common_heap(year.runs, opposite(year).runs), (0, ()))
            for butt in BUTTS:
                self.assertEqual(bought_on(days, butt), bought(year, butt))
                right = bought(year, butt) + bought(opposite(year), butt + 1)
                self.assertEqual(gain(year.runs, opposite(year).runs, butt, butt + 1), right)

    def test_leads_of_both(self):
        for one, other in itertools.product(YEARS, repeat=2):
            if len(one) == len(other):
                together, apart = common_heap(one.runs, other.runs), apart_heap(one.runs, other.runs)
                self.assertIsNotNone(steps(together, apart))
                self.assertGreaterEqual(most_over(apart, together), 0)

    def test_butts_one_behind_another(self):
        for year in FEW + SMALL:
            for butts in ((1, 2), (0, 3, 1), (5,), (2, 2, 2, 2)):
                self.assertIs(is_butts(butts), True)
                whole, rows = sum(butts), levels_behind(year, butts, (0,) * len(butts))
                self.assertEqual([sum(row) for row in rows], levels(year, whole, 0))
                self.assertEqual(year.draws - sum(taken_from(year, butts)), bought(year, whole))
                self.assertEqual(run_over(year, butts)[-1], spilled(year, whole))
                self.assertEqual(taken_from(year, butts)[0], bought(year, 0) - bought(year, butts[0]))
            for butt, further in itertools.product((0, 1, 4), repeat=2):
                self.assertEqual(saves(year, butt, further), saved_by(year, butt, further))


class ChangesTest(unittest.TestCase):
    def test_orders(self):
        for year in FEW:
            if len(year) > 7:
                continue
            worst, found = Year(worst_order(year.runs)), all_swings(year.runs)
            self.assertIn(year.swings, found)
            self.assertIs(never_more(year, worst), True)
            self.assertIs(never_more(passed(year, 0), worst), True)
            for butt in (0, 1, 3, 6):
                self.assertLessEqual(least_bought(year.runs, butt), bought(year, butt))
                self.assertLessEqual(bought(year, butt), most_bought(year.runs, butt))
                best = best_order(year.runs, butt)
                self.assertEqual((is_order(year.runs, best), bought(Year(best), butt)), (True, least_bought(year.runs, butt)))
                told = answers(f"worst {butt} {year.text}\nbest {butt} {year.text}")
                self.assertEqual(told, [str(most_bought(year.runs, butt)), str(least_bought(year.runs, butt))])

    def test_places_for_all(self):
        for year, run in itertools.product(FEW, (2, -5)):
            rows = [(f"at{name}", put_in(year, place, run)) for place, name in enumerate("abcdefghi"[:len(year) + 1])]
            table, places = Table(rows), [name for name, _ in rows]
            least = table.bound_below(table.names)
            right = [place for place, name in enumerate(places) if table[name].heap == least]
            self.assertEqual(best_for_all(year, run), min(right, default=None))
            most = table.bound_above(table.names)
            right = [place for place, name in enumerate(places) if table[name].heap == most]
            self.assertEqual(worst_for_all(year, run), min(right, default=None))

    def test_runs_parted_and_passed(self):
        for year in YEARS:
            for place, run in enumerate(year.runs[:8]):
                if abs(run) > 1:
                    self.assertEqual(parted(year, place, abs(run) - 1).heap, year.heap)
                self.assertIs(is_order(year.runs, passed(year, place).runs), True)

    def test_boards_and_watches(self):
        chance = random.Random(16)
        for _ in range(30):
            year, board = chance.choice(FEW), Board()
            board.put("a", year)
            watch = Watch(year, year)
            for _ in range(20):
                place, run = chance.randrange(9), chance.choice((3, -2))
                try:
                    if chance.random() < 0.5:
                        board.add("a", place, run)
                        watch.put("one", place, run)
                    else:
                        board.remove("a", place)
                        watch.drop("one", place)
                except NoPlace:
                    # The only RUN stays; otherwise the place is none.
                    self.assertTrue(place >= len(year) or len(year) == 1)
                self.assertEqual((board["a"], board.deeds), (watch.one, len(watch) + 1))
                year = watch.one
            while len(watch) > 0:
                watch.back()
                board.undo()
                self.assertEqual(board["a"], watch.one)

    def test_put_in_and_left_out(self):
        for year in YEARS[:-3]:
            for place in (0, len(year) // 2, len(year)):
                self.assertEqual(left_out(put_in(year, place, 7), place), year)
                told = answers(f"year a {year.text}\nadd a {place} +7\nruns a\nundo\nruns a")
                self.assertEqual(told, ["done", "done", put_in(year, place, 7).text, "done", year.text])


class SurveysTest(unittest.TestCase):
    def test_of_years(self):
        for year in YEARS + SMALL:
            high = max((1,) + year.swings)
            for most, further in ((len(year.swings), high), (20, high + 7), (20, high + GREAT)):
                self.assertEqual(surveyed(most, further, lambda butt, held=year: bought(held, butt)), year.heap)

    def test_years_with_the_same_answers(self):
        for year in FEW:
            survey = Survey(4, max((1,) + year.swings))
            while survey.ask is not None:
                survey.tell(bought(year, survey.ask))
                self.assertIs(survey.fits(year.heap), True)
                for butt in range(6):
                    least, greatest = survey.numbers(butt)
                    self.assertTrue(least <= bought(year, butt) <= greatest)
            self.assertEqual(survey.heap, year.heap)


class ErrorsTest(unittest.TestCase):
    def test_all_may_be_caught_as_one(self):
        for call in (lambda: Board()["a"], lambda: Table(())["a"], Survey(1, 1).back, Board().undo, Watch(YEARS[0], YEARS[1]).back,
                     lambda: answers("x"), lambda: put_in(YEARS[0], 99, 1)):
            with self.assertRaises(ButtError) as caught:
                call()
            self.assertIsInstance(caught.exception, ValueError)
        with self.assertRaises(NoYear):
            Table(())["a"]


if __name__ == "__main__":
    unittest.main()

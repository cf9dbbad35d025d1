"""Promise 16: the class Table, several years at once, and promise 2 for it."""

import itertools
import random
import unittest

from allbutts.errors import Known, NoYear
from allbutts.heaps import above_both, below_both, heap_within
from allbutts.lead import compare, most_more, never_more
from allbutts.ranks import Table
from allbutts.years import Year, backwards
from tests.helpers import CallCase, ErrorCase, GREAT, bought_straight, swings_to, year_with

P, Q, R, S = Year((3, -1, 2, -4)), Year((2, -3, 3, -2)), Year((2, -1, -2, 3, -2)), Year((2, -2, 2, -3))
ROWS = (("p", P), ("q", Q), ("r", R), ("s", S))
NAMES = "dry even wet a b c d e f g h zz".split()
# No swing of the years below is greater, so behind this butt nothing changes.
LAST = 14


def some_years(chance, many):
    """Years of which some are tied, and some stand below others."""
    heaps = list(itertools.product(range(3), swings_to(3, 4)))[1:]
    years = [Year(year_with(chance.choice(heaps))) for _ in range(many)]
    return [backwards(year) if chance.random() < 0.5 else year for year in years]


def tables():
    """Tables of all sizes, with the dict of their Years."""
    chance = random.Random(11)
    found = [{}]
    for many in (1, 1, 2, 2, 3, 3, 4, 5, 6, 7, 7, 8, 8, 9, 10, 12, 12, 12):
        found.append(dict(zip(chance.sample(NAMES, many), some_years(chance, many))))
    # All in one row, all tied, none below another one.
    found.append({name: Year((-place - 1,)) for place, name in enumerate(NAMES)})
    found.append({name: Year((5, -5)) for name in NAMES})
    found.append({name: Year(year_with((place, (60 - 5 * place,)))) for place, name in enumerate(NAMES)})
    return [(Table(tuple(years.items())), years) for years in found]


TABLES = tables()


def lower(years, name, other):
    """Whether the one name stands below the other, straight from the document."""
    return never_more(years[name], years[other]) and years[name].heap != years[other].heap


def longest_rows(names, years):
    """All rows of names each below the next one, with as many as there can be."""
    rows = [(name,) for name in names]
    while rows:
        longer = [row + (name,) for row in rows for name in names if lower(years, row[-1], name)]
        if not longer:
            return rows
        rows = longer
    return [()]


class ExamplesTest(ErrorCase, unittest.TestCase):
    def test_a_table(self):
        table = Table(ROWS)
        self.assertEqual((table.names, len(table), "q" in table, "x" in table), (("p", "q", "r", "s"), 4, True, False))
        self.assertEqual((table["s"].heap, table["r"].heap), ((1, (2, 2)), (0, (3, 2))))

    def test_excesses(self):
        table = Table(ROWS)
        told = table.excess_of("p", "q"), table.excess_of("q", "p"), table.is_never_more("r", "p")
        self.assertEqual(told, (1, 0, True))
        right = (("p", "q", 1), ("p", "r", 1), ("p", "s", 1), ("s", "p", 1), ("s", "q", 1), ("s", "r", 1))
        self.assertEqual(table.all_excesses(), right)

    def test_sets(self):
        table = Table(ROWS)
        self.assertEqual((table.on_way("p", "q"), table.below("p"), table.above("q")), (tuple("pqr"), ("q", "r"), ("p", "s")))
        self.assertEqual((table.next_below("s"), table.next_above("r")), (("q", "r"), ("p", "s")))
        self.assertEqual((table.ties(), table.chain(), table.apart()), ((("q", "r"),), ("q", "p"), ("p", "s")))
        self.assertEqual(table.layers(), [("q", "r"), ("p", "s")])
        self.assertEqual((Table(()).chain(), Table(()).layers()), ((), []))

    def test_bounds(self):
        table = Table(ROWS)
        told = table.bound_above(("p", "s")), table.bound_below(("p", "s")), table.bound_above(())
        self.assertEqual(told, ((1, (3, 1)), (0, (3, 2)), (0, ())))
        self.assertEqual((table.within((0, (4, 1))), table.within((0, (3, 2)))), (("p", "q", "r"), ("q", "r")))
        self.assert_raised(Known, {"name": "a"}, Table, (("a", table["p"]), ("a", table["q"])))
        self.assert_raised(NoYear, {"name": "x"}, table.excess_of, "x", "y")


class RowsTest(CallCase, ErrorCase, unittest.TestCase):
    def test_known(self):
        rows = [("b", P), ("a", Q), ("c", R), ("a", P), ("b", P)]
        self.assert_raised(Known, {"name": "a"}, Table, rows)
        self.assert_raised(Known, {"name": "b"}, Table, rows=[("b", P), ("b", P), ("a", P), ("a", Q)])
        self.assert_raised(Known, {"name": "b"}, Table, tuple(rows[:1] * 2))

    def test_any_order(self):
        for rows in itertools.permutations(ROWS):
            for form in (tuple(rows), list(rows), [list(row) for row in rows]):
                table = Table(form)
                self.assertEqual((table.names, table), (("p", "q", "r", "s"), Table(rows=ROWS)))
                self.assertEqual([table[name] for name in "pqrs"], [P, Q, R, S])

    def test_rows_are_copied(self):
        rows = [["p", P], ["q", Q]]
        table = Table(rows)
        rows.append(["r", R])
        rows[0][0], rows[1][1] = "x", S
        self.assertEqual((table.names, table["p"], table["q"], len(table)), (("p", "q"), P, Q, 2))

    def test_equal_ones(self):
        self.assertEqual(Table(ROWS), Table(ROWS[::-1]))
        self.assertTrue(Table(()) == Table([]) and not Table(()) != Table([]))
        # Tied Years are not equal ones.
        self.assertTrue(Table((("a", Q),)) != Table((("a", R),)))
        self.assertTrue(Table((("a", Q),)) != Table((("b", Q),)))
        self.assertTrue(Table(ROWS) != Table(ROWS[:3]))
        for thing in (ROWS, None, 4, P, dict(ROWS), "p"):
            self.assertFalse(Table(ROWS) == thing)

    def test_what_can_not_be_done_with_it(self):
        for table in (Table(ROWS), Table(())):
            for call in (iter, list, tuple, sorted):
                with self.assertRaises(TypeError):
                    call(table)
            with self.assertRaises(AttributeError):
                table.names = ()
            self.assert_raised(NoYear, {"name": "x"}, lambda held=table: held["x"])
            self.assertIs("x" in table, False)


class RanksTest(unittest.TestCase):
    def test_names(self):
        for table, years in TABLES:
            self.assertEqual((table.names, len(table)), (tuple(sorted(years)), len(years)))
            for name in NAMES:
                self.assertIs(name in table, name in years)
                if name in years:
                    self.assertEqual(table[name], years[name])

    def test_excesses(self):
        for table, years in TABLES:
            rows = []
            for name, other in itertools.product(table.names, repeat=2):
                mine, yours = years[name].heap, years[other].heap
                last = max([LAST, *mine[1], *yours[1]])
                right = max(0, *[bought_straight(mine, butt) - bought_straight(yours, butt) for butt in range(last + 1)])
                self.assertEqual(table.excess_of(name, other), right)
                self.assertEqual(right, max(0, most_more(years[name], years[other])))
                self.assertIs(table.is_never_more(name, other), right == 0)
                if right > 0:
                    rows.append((name, other, right))
            self.assertEqual(table.all_excesses(), tuple(sorted(rows)))

    def test_ways(self):
        for table, _ in TABLES:
            excess = {pair: table.excess_of(*pair) for pair in itertools.product(table.names, repeat=2)}
            for name, other in excess:
                sums = [(mid, excess[name, mid] + excess[mid, other]) for mid in table.names]
                self.assertGreaterEqual(min(number for _, number in sums), excess[name, other])
                right = tuple(mid for mid, number in sums if number == excess[name, other])
                told = table.on_way(name, other)
                self.assertEqual(told, right)
                self.assertLessEqual({name, other}, set(told))

    def test_below_and_above(self):
        for table, years in TABLES:
            names = table.names
            for name in names:
                low = [other for other in names if lower(years, other, name)]
                high = [other for other in names if lower(years, name, other)]
                self.assertEqual((table.below(name), table.above(name)), (tuple(low), tuple(high)))
                self.assertEqual(low, [other for other in names if compare(years[other], years[name]) == "less"])
                next_low = [one for one in low if not any(lower(years, one, other) for other in low)]
                next_high = [one for one in high if not any(lower(years, other, one) for other in high)]
                self.assertEqual((table.next_below(name), table.next_above(name)), (tuple(next_low), tuple(next_high)))

    def test_ties(self):
        for table, years in TABLES:
            groups = {tuple(sorted(other for other in years if years[other].heap == year.heap)) for year in years.values()}
            self.assertEqual(table.ties(), tuple(sorted(group for group in groups if len(group) > 1)))

    def test_chains(self):
        for table, years in TABLES:
            rows = longest_rows(table.names, years)
            self.assertEqual(table.chain(), min(rows))
            self.assertEqual(len(table.layers()), len(table.chain()))

    def test_apart(self):
        for table, years in TABLES:
            apart = {pair for pair in itertools.combinations(table.names, 2) if is_apart(years, *pair)}
            for many in range(len(years), -1, -1):
                groups = [group for group in itertools.combinations(table.names, many) if all_in(apart, group)]
                if groups:
                    break
            self.assertEqual(table.apart(), min(groups))

    def test_layers(self):
        for table, years in TABLES:
            layers, early = table.layers(), set()
            for layer in layers:
                left = [name for name in table.names if name not in early]
                right = [name for name in left if not any(lower(years, other, name) for other in left)]
                self.assertEqual(layer, tuple(right))
                early |= set(layer)
            self.assertEqual(early, set(years))

    def test_bounds(self):
        for table, years in TABLES[:-1]:
            for many in range(4):
                for names in itertools.combinations(table.names[:6], many):
                    heaps = [years[name].heap for name in names]
                    self.assert_least_above(table.bound_above(names), heaps)
                    if names:
                        self.assert_greatest_below(table.bound_below(names), heaps)

    def assert_least_above(self, bound, heaps):
        for butt in range(LAST):
            right = max([bought_straight(heap, butt) for heap in heaps], default=0)
            self.assertEqual(bought_straight(bound, butt), right)

    def assert_greatest_below(self, bound, heaps):
        # The sums of each number of the greatest swings are the least ones of all.
        for many in range(LAST):
            right = min(wants + sum(swings[:many]) for wants, swings in heaps)
            self.assertEqual(bound[0] + sum(bound[1][:many]), right)

    def test_within(self):
        for table, years in TABLES:
            for heap in ((0, ()), (0, (4, 1)), (1, (3, 3)), (2, (4, 4, 4)), (50, ()), [2, [2, 2]], [0, []]):
                right = tuple(name for name in table.names if heap_within(years[name].heap, heap))
                self.assertEqual((table.within(heap), table.within(heap=heap)), (right, right))


def is_apart(years, name, other):
    return compare(years[name], years[other]) == "apart"


def all_in(apart, group):
    return all(pair in apart for pair in itertools.combinations(group, 2))


class EdgesTest(CallCase, ErrorCase, unittest.TestCase):
    def test_without_years(self):
        table = Table(())
        self.assertEqual((table.names, len(table), table.all_excesses(), table.ties()), ((), 0, (), ()))
        self.assertEqual((table.apart(), table.chain(), table.layers(), table.within((9, (9,)))), ((), (), [], ()))
        self.assertEqual(table.bound_above([]), (0, ()))

    def test_one_year(self):
        table = Table((("a", P),))
        self.assertEqual((table.chain(), table.apart(), table.layers(), table.ties()), (("a",), ("a",), [("a",)], ()))
        self.assertEqual((table.below("a"), table.above("a"), table.on_way("a", "a")), ((), (), ("a",)))
        self.assertEqual((table.excess_of("a", "a"), table.is_never_more("a", "a")), (0, True))
        self.assertEqual((table.bound_above(["a"]), table.bound_below(["a"])), (P.heap, P.heap))

    def test_all_tied(self):
        table = Table([(name, Year((5, -5))) for name in NAMES])
        names = tuple(sorted(NAMES))
        self.assertEqual((table.ties(), table.chain(), table.apart()), ((names,), ("a",), ("a",)))
        self.assertEqual((table.layers(), table.below("a"), table.next_above("a")), ([names], (), ()))

    def test_the_first_name_that_is_none(self):
        table = Table(ROWS)
        for call in (table.excess_of, table.is_never_more, table.on_way):
            self.assert_raised(NoYear, {"name": "x"}, call, "x", "y")
            self.assert_raised(NoYear, {"name": "x"}, call, "x", "p")
            self.assert_raised(NoYear, {"name": "y"}, call, "p", "y")
            self.assert_raised(NoYear, {"name": "x"}, call, other="y", name="x")
        for call in (table.below, table.above, table.next_below, table.next_above):
            self.assert_raised(NoYear, {"name": "pq"}, call, "pq")
            self.assert_raised(NoYear, {"name": "pq"}, call, name="pq")
        for call in (table.bound_above, table.bound_below):
            self.assert_raised(NoYear, {"name": "b"}, call, ("a", "b")[1:])
            self.assert_raised(NoYear, {"name": "a"}, call, ("a", "b"))
            self.assert_raised(NoYear, {"name": "b"}, call, names=["p", "b", "q", "z"])
            self.assert_raised(NoYear, {"name": "z"}, call, ("p", "q", "r", "s", "z"))

    def test_great_numbers(self):
        rows = [("flat", Year((GREAT, -GREAT) * 2)), ("wet", Year((GREAT,))), ("steep", Year((GREAT,) * 2 + (-2 * GREAT,)))]
        table = Table(rows + [("dry", Year((-1,)))])
        self.assertEqual(table.all_excesses(), (
            ("dry", "flat", 1), ("dry", "steep", 1), ("dry", "wet", 1), ("flat", "dry", 2 * GREAT - 1),
            ("flat", "wet", 2 * GREAT), ("steep", "dry", 2 * GREAT - 1), ("steep", "flat", GREAT),
            ("steep", "wet", 2 * GREAT),
        ))
        self.assertEqual((table.chain(), table.apart()), (("wet", "flat", "steep"), ("dry", "flat")))
        # With a butt of GREAT - 1 flat buys 2, with one of GREAT nothing: dry buys 1 with both.
        self.assertEqual(table.bound_above(("dry", "flat")), (1, (GREAT, GREAT - 1)))
        self.assertEqual(table.bound_below(("dry", "flat")), (0, (1,)))

    def test_bounds_of_all(self):
        chance = random.Random(2)
        years = some_years(chance, 12)
        table = Table(list(zip(NAMES, years)))
        above, below = years[0].heap, years[0].heap
        for year in years:
            above, below = above_both(above, year.heap), below_both(below, year.heap)
        self.assertEqual((table.bound_above(table.names), table.bound_below(table.names)), (above, below))
        self.assertEqual(table.within(above), table.names)

    def test_how_they_are_called(self):
        table = Table(ROWS)
        self.assert_told(1, table.excess_of, name="p", other="q")
        self.assert_told(True, table.is_never_more, name="r", other="p")
        self.assert_told(("p", "q", "r"), table.on_way, name="p", other="q")
        self.assert_told(("q", "r"), table.below, name="p")
        self.assert_told(("p", "s"), table.above, name="q")
        self.assert_told(("q", "r"), table.next_below, name="s")
        self.assert_told(("p", "s"), table.next_above, name="r")
        self.assert_told((1, (3, 1)), table.bound_above, names=("p", "s"))
        self.assert_told((0, (3, 2)), table.bound_below, names=("p", "s"))
        self.assert_told(("p", "q", "r"), table.within, heap=(0, (4, 1)))
        self.assert_told([("q", "r"), ("p", "s")], table.layers)
        self.assert_told((("q", "r"),), table.ties)
        table.layers().append(None)
        self.assertEqual(len(table.layers()), 2)


if __name__ == "__main__":
    unittest.main()

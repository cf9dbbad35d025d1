"""Promise 10: steps that lead from one heap to another, and promise 2 for what judges and does them."""

import itertools
import random
import unittest

from allbutts.errors import NoStep
from allbutts.heaps import above_both, below_both, heap_within
from allbutts.steps import gone_by, is_step, is_steps, lowers, steps, taken
from tests.helpers import DEEP, GREAT, NO_NUMBERS, CallCase, ErrorCase, bought_straight, heaps_to

DRY, EVEN = (0, (4, 1)), (0, (3, 2))
SMALL = heaps_to(2, 3, 3)
SOME = [
    (0, ()), (3, ()), (20, ()), (0, (9,)), (0, (5, 5)), (1, (8,)), (0, (4, 4, 4)), (2, (7, 1)), (0, (3, 3, 3, 3)),
    (5, (1,)), (0, (9, 1, 1, 1)), (0, (6, 6, 1)), (1, (5, 4, 3, 2, 1)), (0, (2,) * 7), (4, (3, 2)), (1, (9, 9)),
    (9, (9, 9)), (2, (9, 5, 5, 2)), (0, (1,) * 12), (12, (12, 1)),
]
STEPS = list(itertools.product(("want", *range(-1, 6)), ("gone", *range(-1, 6)), range(1, 6)))


def taken_straight(heap, step):
    """The heap behind one step, straight from the document; None if it can not be done."""
    wants, swings = heap
    source, target, many = step
    left = list(swings)
    if target not in ("gone", 0) and target not in left:
        return None
    if source == "want":
        if wants < many:
            return None
        wants -= many
    else:
        if source not in left or many > source:
            return None
        if target != "gone" and target + many > source:
            return None
        left.remove(source)
        left.append(source - many)
    if target != "gone":
        # Source and target are never one swing, as then target + many would be above source.
        if target != 0:
            left.remove(target)
        left.append(target + many)
    return wants, tuple(sorted((swing for swing in left if swing > 0), reverse=True))


def all_taken_straight(heap, row):
    """The heap behind all steps; None if one of them can not be done."""
    for step in row:
        heap = taken_straight(heap, step)
        if heap is None:
            return None
    return heap


def whole(heap):
    """What a heap wants and its swings together."""
    return heap[0] + sum(heap[1])


class ExamplesTest(ErrorCase, unittest.TestCase):
    def test_steps(self):
        self.assertIsNone(steps(DRY, EVEN))
        self.assertEqual(steps(DRY, DRY), ())
        things = ((4, 1, 1),), steps(EVEN, DRY), ((4, "gone", 1), (1, 0, 1))
        self.assertEqual([is_steps(EVEN, DRY, thing) for thing in things], [True, True, False])

    def test_taken(self):
        self.assertEqual(taken((2, (5, 1)), (("want", 1, 1), (5, 0, 2), (3, "gone", 1))), (1, (2, 2, 2)))
        self.assertEqual((taken(DRY, ((1, "gone", 1),)), taken(DRY, ())), ((0, (4,)), DRY))
        self.assert_raised(NoStep, {"place": 1}, taken, DRY, ((4, 1, 1), (4, 1, 1)))

    def test_single_steps(self):
        things = (4, 1, 3), (4, 1, 4), ("want", "gone", 1), (4, 2, 1), (1, 4, 1), (4, "gone", 4)
        self.assertEqual([is_step(DRY, thing) for thing in things], [True, False, False, False, False, True])

    def test_gone_and_lowered(self):
        self.assertEqual(gone_by((("want", "gone", 2), (4, 1, 1), (4, "gone", 3))), 5)
        things = (4, 1, 1), (4, 1, 3), (2, 1, 1), ("want", 0, 1), (4, "gone", 1)
        self.assertEqual([lowers(thing) for thing in things], [(2, 3), None, None, (1, None), (0, 3)])


class OneStepTest(CallCase, ErrorCase, unittest.TestCase):
    def test_all_small_ones(self):
        for heap in heaps_to(2, 3, 4):
            for step in STEPS:
                behind = taken_straight(heap, step)
                self.assertIs(is_step(heap, step), behind is not None, (heap, step))
                if behind is None:
                    self.assert_raised(NoStep, {"place": 0}, taken, heap, (step,))
                else:
                    self.assertEqual(taken(heap, (step,)), behind)

    def test_never_is_more_bought(self):
        for heap in heaps_to(2, 3, 4):
            for step in STEPS:
                behind = taken_straight(heap, step)
                if behind is not None:
                    self.assertIs(heap_within(behind, heap), True)
                    pairs = [(bought_straight(behind, butt), bought_straight(heap, butt)) for butt in range(12)]
                    self.assertTrue(all(now <= ahead for now, ahead in pairs))
                    less = [butt for butt, (now, ahead) in enumerate(pairs) if now < ahead]
                    span = lowers(step)
                    if span is None:
                        self.assertEqual(less, [])
                    else:
                        least, greatest = span
                        self.assertEqual(less, list(range(least, 12 if greatest is None else greatest + 1)))

    def test_other_things(self):
        heap = (3, (4, 1))
        right = [("want", "gone", 3), ("want", 0, 1), ("want", 4, 2), (4, 0, 4), (4, 1, 1), (1, "gone", 1), (1, 0, 1)]
        self.assert_yes(is_step, (heap,), right)
        self.assert_no(is_step, (heap,), [list(step) for step in right] + [step + (1,) for step in right])
        wrong = [
            ("want", "gone", 0), ("want", "gone", -1), ("want", "gone", 4), ("want", "gone", True), ("want", "want", 1),
            ("gone", "gone", 1), ("gone", "want", 1), (4, "want", 1), ("WANT", "gone", 1), ("want", "", 1), (1, "gone", 2),
            (True, "gone", 1), (4, True, 1), (4, False, 1), ("want", False, 1), (None, "gone", 1), (4, None, 1),
            (4, "gone", None), (4, "gone", "1"), ("4", "gone", 1), (4, "1", 1), (4, (1,), 1), ((4,), 1, 1), ([4], 1, 1),
            (4, [1], 1), (4, 1, [1]), (4, 1), (4,), (), "4 1 1", "abc", (0, "gone", 1), (0, 0, 1), (-1, "gone", 1),
            (4, -1, 1), (4, 4, 1), (1, 1, 1), (4, 1, 10 ** 60), (10 ** 60, 1, 1), (4, 10 ** 60, 1), DEEP, (DEEP,) * 3,
        ]
        self.assert_no(is_step, (heap,), wrong + list(NO_NUMBERS))

    def test_heaps_without_swings(self):
        self.assert_yes(is_step, ((2, ()),), [("want", "gone", 2), ("want", 0, 2)])
        self.assert_no(is_step, ((2, ()),), [("want", 1, 1), (1, "gone", 1), (0, "gone", 1), ("want", 0, 3)])
        self.assert_no(is_step, ((0, ()),), [("want", "gone", 1), ("want", 0, 1)])
        self.assertEqual(taken((2, ()), (("want", 0, 1), ("want", 1, 1), (2, 0, 2))), (0, (2,)))

    def test_equal_swings(self):
        self.assertEqual(taken((0, (4, 4, 4)), ((4, 0, 1), (4, 1, 2), (4, "gone", 4))), (0, (3, 3, 2)))
        self.assertEqual(taken((0, (2, 2)), ((2, "gone", 2), (2, "gone", 2))), (0, ()))
        # A step may change nothing at all.
        self.assertEqual(taken((0, (5, 2)), ((5, 2, 3), (5, 0, 5))), (0, (5, 2)))


class RowsTest(CallCase, ErrorCase, unittest.TestCase):
    def test_the_first_place_that_can_not_be_done(self):
        wrong = (9, "gone", 1)
        self.assert_raised(NoStep, {"place": 0}, taken, DRY, (wrong, wrong))
        self.assert_raised(NoStep, {"place": 2}, taken, DRY, ((4, 1, 1), (3, "gone", 1), (3, "gone", 1), wrong))
        self.assert_raised(NoStep, {"place": 1}, taken, DRY, ((1, "gone", 1), (4, 1, 1)))
        self.assert_raised(NoStep, {"place": 3}, taken, (3, ()), (("want", "gone", 1),) * 9)
        self.assert_raised(NoStep, {"place": 1}, taken, heap=[0, [4, 1]], row=[[4, 1, 1], [4, 1, 1]])

    def test_rows_of_two(self):
        some = [step for step in STEPS if step[2] <= 2]
        for heap in ((1, (3, 1)), (0, (4, 2)), (2, ())):
            for row in itertools.product(some, repeat=2):
                told = all_taken_straight(heap, row)
                if told is None:
                    place = 0 if taken_straight(heap, row[0]) is None else 1
                    self.assert_raised(NoStep, {"place": place}, taken, heap, row)
                else:
                    self.assertEqual(taken(heap, row), told)
                    self.assertIs(is_steps(told, heap, row), True)

    def test_steps_lead_there(self):
        for one, other in [*itertools.product(SMALL, repeat=2), *itertools.product(SOME, repeat=2)]:
            row = steps(one, other)
            self.assertEqual(row is not None, heap_within(one, other))
            if row is None:
                # Whatever is done, no row leads there.
                self.assertIs(is_steps(one, other, ()), False)
            else:
                self.assertIs(type(row), tuple)
                self.assertEqual(all_taken_straight(other, row), one, (one, other, row))
                self.assertEqual(taken(other, row), one)
                self.assertIs(is_steps(one, other, row), True)
                self.assertEqual(gone_by(row), whole(other) - whole(one))

    def test_between_made_heaps(self):
        for one, other in itertools.combinations(SOME, 2):
            below, above = below_both(one, other), above_both(one, other)
            for less, more in ((below, one), (below, other), (one, above), (other, above), (below, above)):
                self.assertEqual(all_taken_straight(more, steps(less, more)), less)

    def test_great_heaps(self):
        chance = random.Random(7)
        for many in (1, 2, 5, 20, 80):
            for _ in range(10):
                other = chance.randrange(GREAT), sorted_swings(chance.randrange(1, GREAT + 1) for _ in range(many))
                one = other
                # Down by many steps of all kinds, whose way back is not told to steps.
                for _ in range(100):
                    one = taken_straight(one, some_step(chance, one)) or one
                row = steps(one, other)
                self.assertEqual(all_taken_straight(other, row), one)
                self.assertIs(is_steps(one, other, row), True)
                self.assertEqual(gone_by(row), whole(other) - whole(one))
                self.assertEqual(steps(other, one), () if one == other else None)

    def test_eighty_swings(self):
        flat, steep = (0, (GREAT,) * 80), (0, tuple(GREAT * k for k in range(80, 0, -1)))
        for one, other in ((flat, steep), ((0, ()), steep), (flat, (80 * GREAT, ())), ((0, (1,) * 80), (80, ()))):
            row = steps(one, other)
            self.assertEqual(all_taken_straight(other, row), one)
            self.assertIs(is_steps(one, other, row), True)
        self.assertIsNone(steps(steep, flat))


def sorted_swings(sizes):
    return tuple(sorted(sizes, reverse=True))


def some_step(chance, heap):
    """A step that may be done with this heap."""
    wants, swings = heap
    source = chance.choice(("want",) + swings)
    target = chance.choice(("gone", 0) + swings[-3:])
    most = wants if source == "want" else source - (0 if target == "gone" else target)
    return source, target, chance.randrange(1, max(2, most + 1))


class IsStepsTest(CallCase, unittest.TestCase):
    def test_other_things(self):
        self.assert_yes(is_steps, (EVEN, DRY), [((4, 1, 1),), ((4, 1, 3), (4, 1, 1))])
        wrong = [
            [(4, 1, 1)], ([4, 1, 1],), (4, 1, 1), ((4, 1, 1), ()), ((4, 1, True),), ((4, True, 1),), (), "411", (None,),
            ((4, 1, 1), None), ((4, 1, 1), (9, 1, 1)), ((4, 1, 1), (3, "gone", 1)), (((4, 1, 1),),), ((4, 1, 1, 1),), DEEP,
            ((4, 1),), ((4, 1, 0),), ((4, 1, 1), (3, 2, 0)),
        ]
        self.assert_no(is_steps, (EVEN, DRY), wrong + list(NO_NUMBERS))

    def test_from_a_heap_to_itself(self):
        for heap in SOME:
            self.assertEqual(steps(heap, heap), ())
            self.assert_yes(is_steps, (heap, heap), [()])
            self.assert_no(is_steps, (heap, heap), [[], None, "", ((), )])

    def test_long_things(self):
        row = (("want", "gone", 1),) * 20000
        self.assert_yes(is_steps, ((5, (4, 1)), (20005, (4, 1))), [row])
        self.assert_no(is_steps, ((5, (4, 1)), (20004, (4, 1))), [row, row + (None,)])
        self.assert_yes(is_steps, ((0, (1,) * 20000), (20000, ())), [(("want", 0, 1),) * 20000])
        self.assert_yes(is_steps, (DRY, DRY), [((4, 0, 4), (4, 1, 3)) * 10000])

    def test_the_way_back_is_none(self):
        self.assert_no(is_steps, (DRY, EVEN), [((4, 1, 1),), ((3, 2, 1),), ((2, 3, 1),)])

    def test_how_they_are_called(self):
        self.assert_told((1, (2, 2, 2)), taken, heap=(2, (5, 1)), row=(("want", 1, 1), (5, 0, 2), (3, "gone", 1)))
        self.assert_told((2, (5, 1)), taken, heap=(2, (5, 1)), row=())
        self.assert_told(steps(EVEN, DRY), steps, one=EVEN, other=DRY)
        self.assert_told(None, steps, one=DRY, other=EVEN)
        self.assert_told((), steps, one=DRY, other=DRY)
        self.assert_told(5, gone_by, row=(("want", "gone", 2), (4, 1, 1), (4, "gone", 3)))
        self.assert_told(0, gone_by, row=())
        self.assert_told((2, 3), lowers, step=(4, 1, 1))
        self.assert_told((0, None), lowers, step=("want", "gone", 7))
        self.assertIs(is_steps([0, [3, 2]], [0, [4, 1]], ((4, 1, 1),)), True)
        self.assertIs(is_steps(one=EVEN, other=DRY, thing=((4, 1, 1),)), True)
        self.assertIs(is_step([0, [4, 1]], (4, 1, 3)), True)
        self.assertIs(is_step(heap=DRY, thing=(4, 1, 3)), True)


class LowersTest(unittest.TestCase):
    def test_great_steps(self):
        self.assertEqual(lowers((GREAT, 0, 1)), (1, GREAT - 1))
        self.assertEqual(lowers((GREAT, 0, GREAT)), None)
        self.assertEqual(lowers((GREAT, GREAT - 2, 1)), (GREAT - 1, GREAT - 1))
        self.assertEqual(lowers(("want", GREAT, 1)), (GREAT + 1, None))
        self.assertEqual(lowers((GREAT, "gone", GREAT)), (0, GREAT - 1))
        self.assertEqual(lowers((1, "gone", 1)), (0, 0))


if __name__ == "__main__":
    unittest.main()

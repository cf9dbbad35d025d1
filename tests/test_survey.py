"""Promise 18: the class Survey, surveyed, and promise 2 for these."""

import itertools
import random
import unittest

from allbutts.errors import AllKnown, BadAnswer, NothingDone
from allbutts.heaps import bought_by_heap
from allbutts.longrun import bought
from allbutts.survey import Survey, surveyed
from allbutts.years import Year
from tests.helpers import CallCase, ErrorCase, GREAT, bought_straight, swings_to, tuples_to_lists, year_with

# What is bought may be so great.
FAR = 10 ** 32


def asker_of(heap, asked=None):
    """Answers for a hidden heap, and notes what was asked."""
    def asker(butt):
        if asked is not None:
            asked.append(butt)
        return bought_straight(heap, butt)
    return asker


def told(most, high, heap):
    """A Survey that was told all of a hidden heap."""
    survey = Survey(most, high)
    while survey.ask is not None:
        survey.tell(bought_straight(heap, survey.ask))
    return survey


def state(survey):
    """All that a Survey tells."""
    butts = (0, 1, 2, 3, survey.high - 1, survey.high, survey.high + 1, 10 ** 30)
    return survey.ask, survey.answers, survey.heap, len(survey), [survey.numbers(butt) for butt in butts]


class ExamplesTest(ErrorCase, unittest.TestCase):
    def test_a_survey(self):
        survey = Survey(2, 10)
        self.assertEqual((survey.ask, survey.numbers(3), survey.heap, survey.tell(0), survey.ask), (10, (0, None), None, None, 0))
        self.assertEqual((survey.numbers(3), survey.numbers(GREAT)), ((0, 14), (0, 0)))
        self.assertEqual((survey.tell(5), survey.answers), (None, ((10, 0), (0, 5))))
        self.assertEqual((survey.numbers(0), survey.numbers(2)), ((5, 5), (1, 3)))
        fitting = [survey.fits(heap) for heap in ((0, (4, 1)), (0, (5, 1)), (1, (4,)))]
        self.assertEqual(fitting, [True, False, False])
        self.assert_raised(BadAnswer, {"number": 21}, self.back_and_tell, survey, 21)

    def back_and_tell(self, survey, number):
        self.assertEqual((survey.back(), survey.ask), (None, 0))
        survey.tell(number)

    def test_a_lone_one(self):
        lone = Survey(0, 1)
        self.assertEqual((lone.ask, lone.tell(7), lone.ask, lone.heap, len(lone)), (1, None, None, (7, ()), 1))
        self.assertEqual((Survey(3, 5).most, Survey(3, 5).high), (3, 5))
        self.assert_raised(AllKnown, {}, lone.tell, 7)
        self.assert_raised(NothingDone, {}, Survey(1, 1).back)

    def test_surveyed(self):
        swings = (GREAT, 7, 7, 1)
        found = surveyed(20, GREAT, lambda butt: 3 + sum([max(0, swing - butt) for swing in swings]))
        self.assertEqual(found, (3, swings))


class AllHeapsTest(ErrorCase, unittest.TestCase):
    """Small Surveys side by side with the list of all heaps that fit."""

    def test_all_small_ones(self):
        for most, high in itertools.product(range(5), range(1, 6)):
            heaps = [(wants, swings) for wants in (0, 1) for swings in swings_to(most, high)]
            for hidden in heaps[:len(heaps) // 2]:
                self.follow(most, high, heaps, hidden)

    def follow(self, most, high, heaps, hidden):
        survey, fitting = Survey(most, high), heaps
        self.assertEqual((survey.ask, survey.heap, survey.answers), (high, None, ()))
        while survey.ask is not None:
            ask = survey.ask
            if len(survey) == 1:
                self.assertEqual(ask, 0)
            if len(survey) > 0:
                self.wrong_answers(survey, {bought_straight(heap, ask) for heap in fitting}, most * high + 3)
            number = bought_straight(hidden, ask)
            self.assertIsNone(survey.tell(number))
            self.assertEqual(survey.answers[-1], (ask, number))
            fitting = [heap for heap in fitting if bought_straight(heap, ask) == number]
            self.assert_known(survey, heaps, fitting)
        self.assertEqual(survey.heap, hidden)

    def wrong_answers(self, survey, right, end):
        """Not all heaps say the same, and each number that none of them says is refused."""
        self.assertGreater(len(right), 1)
        before = state(survey)
        for number in range(-1, end + 1):
            if number not in right:
                self.assert_raised(BadAnswer, {"number": number}, survey.tell, number)
        self.assertEqual(state(survey), before)

    def assert_known(self, survey, heaps, fitting):
        for heap in heaps:
            self.assertIs(survey.fits(heap), heap in fitting)
        for butt in range(survey.high + 3):
            numbers = [bought_straight(heap, butt) for heap in fitting]
            self.assertEqual(survey.numbers(butt), (min(numbers), max(numbers)), (survey.answers, butt))
        self.assertEqual(survey.ask is None, len(fitting) == 1)
        self.assertEqual(survey.heap, fitting[0] if len(fitting) == 1 else None)

    def test_all_answers(self):
        # Whatever is answered, just those numbers go that some heap says.
        for most, high in ((1, 4), (2, 3), (3, 3), (4, 2)):
            heaps = [(2, swings) for swings in swings_to(most, high)]
            survey = Survey(most, high)
            survey.tell(2)
            self.all_answers(survey, heaps)

    def all_answers(self, survey, fitting):
        if survey.ask is None:
            self.assertEqual(fitting, [survey.heap])
            return
        ask, before = survey.ask, state(survey)
        groups = {}
        for heap in fitting:
            groups.setdefault(bought_straight(heap, ask), []).append(heap)
        self.assertGreater(len(groups), 1)
        for number in range(min(groups) - 2, max(groups) + 3):
            if number in groups:
                survey.tell(number)
                self.all_answers(survey, groups[number])
                survey.back()
            else:
                self.assert_raised(BadAnswer, {"number": number}, survey.tell, number)
            self.assertEqual(state(survey), before)


class SurveyTest(CallCase, ErrorCase, unittest.TestCase):
    def test_nothing_answered(self):
        for most, high in ((0, 1), (3, 1), (20, GREAT), (0, 9)):
            survey = Survey(most=most, high=high)
            self.assertEqual((survey.most, survey.high, survey.ask, survey.answers, len(survey)), (most, high, high, (), 0))
            self.assertEqual((survey.heap, survey.numbers(0), survey.numbers(GREAT)), (None, (0, None), (0, None)))
            self.assertIs(survey.fits((FAR, (high,) * most)), True)
            self.assertIs(survey.fits((0, ())), True)
            self.assertIs(survey.fits((0, (high,) * (most + 1))), False)
            self.assertIs(survey.fits((0, (high + 1,))), False)
            self.assert_raised(NothingDone, {}, survey.back)
            for number in (-1, -GREAT):
                self.assert_raised(BadAnswer, {"number": number}, survey.tell, number)

    def test_no_swings(self):
        survey = Survey(0, GREAT)
        survey.tell(FAR)
        self.assertEqual((survey.ask, survey.heap, survey.answers), (None, (FAR, ()), ((GREAT, FAR),)))
        self.assertEqual([survey.numbers(butt) for butt in (0, 5, GREAT, FAR)], [(FAR, FAR)] * 4)
        for number in (FAR, 0, -1):
            self.assert_raised(AllKnown, {}, survey.tell, number)
        self.assertEqual((survey.back(), survey.ask, survey.heap, len(survey)), (None, GREAT, None, 0))

    def test_high_one(self):
        for most in (1, 2, 20):
            for many in range(most + 1):
                survey = Survey(most, 1)
                survey.tell(4)
                self.assertEqual((survey.ask, survey.numbers(0)), (0, (4, 4 + most)))
                for number in (3, 5 + most, -1):
                    self.assert_raised(BadAnswer, {"number": number}, survey.tell, number)
                survey.tell(4 + many)
                self.assertEqual((survey.ask, survey.heap), (None, (4, (1,) * many)))

    def test_answers_at_the_ends(self):
        # No swings, or as many and as great as can be: two answers tell it.
        for most, high in ((1, 7), (3, 5), (20, GREAT)):
            for swings in ((), (high,) * most):
                survey = Survey(most, high)
                survey.tell(9)
                survey.tell(9 + sum(swings))
                self.assertEqual((survey.ask, survey.heap), (None, (9, swings)))

    def test_answers_taken_back(self):
        chance = random.Random(8)
        for _ in range(40):
            most, high = chance.randrange(6), chance.choice((1, 2, 9, 1000, GREAT))
            swings = [chance.randrange(1, high + 1) for _ in range(chance.randrange(most + 1))]
            hidden = (chance.randrange(5), tuple(sorted(swings, reverse=True)))
            survey, states = Survey(most, high), []
            while survey.ask is not None:
                states.append(state(survey))
                survey.tell(bought_straight(hidden, survey.ask))
                if len(states) > 1 and chance.random() < 0.4:
                    self.assertIsNone(survey.back())
                    self.assertEqual(state(survey), states.pop())
            self.assertEqual(survey.heap, hidden)
            while states:
                self.assertIsNone(survey.back())
                self.assertEqual(state(survey), states.pop())
            self.assert_raised(NothingDone, {}, survey.back)

    def test_other_answers_behind_those_taken_back(self):
        survey = told(2, 10, (0, (4, 1)))
        while len(survey) > 1:
            survey.back()
        while survey.ask is not None:
            survey.tell(bought_straight((0, (9, 9)), survey.ask))
        self.assertEqual(survey.heap, (0, (9, 9)))

    def test_the_same_answers_ask_the_same(self):
        for heap in ((0, (4, 1)), (3, (9, 9, 2)), (1, ())):
            one, other = told(5, 12, heap), told(5, 12, heap)
            self.assertEqual((one.answers, one.heap), (other.answers, heap))

    def test_one_is_equal_to_itself_alone(self):
        one, other = Survey(2, 5), Survey(2, 5)
        self.assertTrue(one == one and not one != one)
        self.assertTrue(one != other and not one == other)
        for thing in (None, (), 0, (2, 5)):
            self.assertFalse(one == thing)

    def test_properties_have_no_setters(self):
        survey = Survey(2, 5)
        for name in ("most", "high", "ask", "answers", "heap"):
            with self.assertRaises(AttributeError):
                setattr(survey, name, None)

    def test_known_at_the_end(self):
        survey = told(3, 10, (2, (7, 7, 1)))
        self.assertEqual((survey.heap, survey.ask), ((2, (7, 7, 1)), None))
        self.assertEqual([survey.numbers(butt) for butt in (0, 1, 6, 7, 9, 10, 99)], [
            (number, number) for number in (17, 14, 4, 2, 2, 2, 2)])
        self.assertIs(survey.fits((2, (7, 7, 1))), True)
        self.assertIs(survey.fits([2, [7, 7, 1]]), True)
        self.assertIs(survey.fits((2, (7, 6, 2))), False)
        before = state(survey)
        self.assert_raised(AllKnown, {}, survey.tell, 2)
        self.assertEqual(state(survey), before)

    def test_how_they_are_called(self):
        survey = Survey(2, 10)
        self.assertIsNone(survey.tell(number=0))
        self.assert_told((0, 14), survey.numbers, butt=3)
        self.assert_told(True, survey.fits, heap=(0, (4, 1)))
        self.assert_told(False, survey.fits, heap=(1, (4, 1)))
        self.assertEqual(surveyed(most=2, high=10, asker=asker_of((0, (4, 1)))), (0, (4, 1)))


class SurveyedTest(ErrorCase, unittest.TestCase):
    def test_all_kinds_of_heaps(self):
        chance = random.Random(6)
        for _ in range(300):
            high, most = chance.choice((1, 2, 3, 50, 10 ** 6, GREAT)), chance.randrange(21)
            many, near = chance.randrange(most + 1), chance.randrange(1, high + 1)
            sizes = {
                "any": lambda: chance.randrange(1, high + 1),
                "small": lambda: max(1, high >> chance.randrange(100)),
                "great": lambda: max(1, high - (high >> chance.randrange(1, 100))),
                "near": lambda: min(high, near + chance.randrange(4)),
            }[chance.choice(("any", "small", "great", "near"))]
            heap = (chance.randrange(FAR), tuple(sorted([sizes() for _ in range(many)], reverse=True)))
            asked = []
            self.assertEqual(surveyed(most, high, asker_of(heap, asked)), heap)
            self.assertEqual(asked[:2], [high, 0][:len(asked)])
            self.assertEqual(len(set(asked)), len(asked))
            self.assertEqual(told(most, high, heap).answers, tuple((butt, bought_by_heap(heap, butt)) for butt in asked))

    def test_of_a_year(self):
        year = Year(year_with((3, (GREAT, 12, 12, 5))))
        self.assertEqual(surveyed(20, GREAT, lambda butt: bought(year, butt)), year.heap)

    def test_twenty_swings(self):
        step = GREAT // 20
        for swings in ((GREAT,) * 20, tuple(GREAT - place for place in range(20)), tuple(range(20, 0, -1)),
                       tuple(step * place for place in range(20, 0, -1)), tuple(GREAT >> place for place in range(20))):
            self.assertEqual(surveyed(20, GREAT, asker_of((FAR, swings))), (FAR, swings))

    def test_answers_that_no_heap_fits(self):
        self.assert_raised(BadAnswer, {"number": -1}, surveyed, 2, 10, lambda butt: -1)
        self.assert_raised(BadAnswer, {"number": 21}, surveyed, 2, 10, lambda butt: 0 if butt == 10 else 21)
        self.assert_raised(BadAnswer, {"number": 4}, surveyed, 2, 10, lambda butt: 5 if butt == 10 else 4)
        # Between 0 and 10 none of these falls as any heap does.
        self.assert_raised(BadAnswer, {"number": 10}, surveyed, 2, 10, lambda butt: 0 if butt == 10 else 10)
        self.assert_raised(BadAnswer, {"number": 9}, surveyed, 3, 10, asker_of_wrong)

    def test_more_than_most(self):
        with self.assertRaises(BadAnswer):
            surveyed(2, 10, asker_of((0, (9, 9, 9))))

    def test_errors_of_the_asker(self):
        for error in (KeyError("x"), ValueError("y"), ZeroDivisionError(), BadAnswer(77), AllKnown(), RuntimeError("z")):
            with self.assertRaises(type(error)) as caught:
                surveyed(2, 10, raiser_of(error, 0))
            self.assertIs(caught.exception, error)
            with self.assertRaises(type(error)) as caught:
                surveyed(2, 10, raiser_of(error, 2))
            self.assertIs(caught.exception, error)

    def test_any_callable(self):
        class Hidden:
            def __call__(self, butt):
                return bought_straight((1, (4, 4)), butt)

            def told(self, butt):
                return bought_straight((1, (4, 4)), butt)

        for asker in (Hidden(), Hidden().told, lambda butt: max(0, 4 - butt) * 2 + 1):
            self.assertEqual(surveyed(3, 9, asker), (1, (4, 4)))

    def test_lists_are_copied(self):
        heap = tuples_to_lists((0, (4, 1)))
        survey = Survey(2, 10)
        self.assertIs(survey.fits(heap), True)
        self.assertEqual(heap, [0, [4, 1]])


def asker_of_wrong(butt):
    """From 0 to 10 it falls by 9 and ends at 0, but it is 9 in between."""
    return 0 if butt == 10 else 9


def raiser_of(error, after):
    """Answers so often, then raises the error."""
    asked = []

    def asker(butt):
        asked.append(butt)
        if len(asked) > after:
            raise error
        return bought_straight((0, (4, 1)), butt)
    return asker


if __name__ == "__main__":
    unittest.main()

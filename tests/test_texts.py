"""Promise 19: runs, swings and heaps as texts, and promise 2 for what reads and writes them."""

import unittest

from allbutts.errors import BadText
from allbutts.texts import heap_from, heap_text, lines_of, runs_from, runs_text, swings_from, swings_text
from allbutts.years import Year
from tests.helpers import ErrorCase

GREAT = 10 ** 30


class WritingTest(unittest.TestCase):
    def test_examples(self):
        self.assertEqual(runs_text((3, -1, 2, -4)), "+3 -1 +2 -4")
        self.assertEqual(swings_text((4, 1)), "4 1")
        self.assertEqual(swings_text(()), "-")
        self.assertEqual(heap_text((0, (4, 1))), "0: 4 1")
        self.assertEqual(heap_text((7, ())), "7: -")

    def test_one_and_many(self):
        self.assertEqual(runs_text((5,)), "+5")
        self.assertEqual(runs_text((-5,)), "-5")
        self.assertEqual(runs_text((-1, -20)), "-1 -20")
        self.assertEqual(swings_text((7,)), "7")
        self.assertEqual(swings_text((2, 2, 2)), "2 2 2")
        self.assertEqual(heap_text((0, ())), "0: -")
        self.assertEqual(runs_text((1,) * 41), " ".join(["+1"] * 41))

    def test_great_numbers(self):
        digits = "1" + "0" * 30
        self.assertEqual(runs_text((GREAT, -GREAT)), "+" + digits + " -" + digits)
        self.assertEqual(heap_text((GREAT, (GREAT, 1))), digits + ": " + digits + " 1")

    def test_lists_and_names(self):
        runs, swings = [3, -1], [4, 1]
        self.assertEqual(runs_text(runs=runs), "+3 -1")
        self.assertEqual(swings_text(swings=swings), "4 1")
        self.assertEqual(swings_text([]), "-")
        self.assertEqual(heap_text(heap=[0, swings]), "0: 4 1")
        self.assertEqual(heap_text([7, []]), "7: -")
        self.assertEqual((runs, swings), ([3, -1], [4, 1]))


class ReadingRunsTest(ErrorCase, unittest.TestCase):
    def test_examples(self):
        self.assertEqual(runs_from("+3 -1 +2 -4"), (3, -1, 2, -4))
        self.assert_raised(BadText, {"piece": 1}, runs_from, "+3 1")
        self.assert_raised(BadText, {"piece": 1}, runs_from, "+3  -1")

    def test_a_tuple_is_told(self):
        self.assertIs(type(runs_from("+3 -1")), tuple)

    def test_right_texts(self):
        self.assertEqual(runs_from("+1"), (1,))
        self.assertEqual(runs_from("-10"), (-10,))
        self.assertEqual(runs_from("-1 -1 +905"), (-1, -1, 905))
        self.assertEqual(runs_from(text="+3"), (3,))
        self.assertEqual(runs_from("+" + str(GREAT) + " -" + "9" * 40), (GREAT, -int("9" * 40)))

    def test_a_row_of_runs_may_have_more_than_a_year(self):
        self.assertEqual(runs_from(" ".join(["+1"] * 45)), (1,) * 45)
        self.assert_raised(BadText, {"piece": 44}, runs_from, " ".join(["+1"] * 44 + ["1"]))

    def test_wrong_single_pieces(self):
        wrong = [
            "", "3", "+", "-", "+0", "-0", "+03", "-03", "+-3", "--3", "++3", "3+", "+3-", "+3,", "+1_0", "+3.0",
            "+3\n", "\n+3", "+3\t-1", "+3\n-1", "+a", "+0x1", "+\u0663", "+\u00b2", "\u22123", "\uff0b3", "+3\u00a0-1",
        ]
        for text in wrong:
            with self.subTest(text):
                self.assert_raised(BadText, {"piece": 0}, runs_from, text)
                self.assert_raised(BadText, {"piece": 2}, runs_from, "+1 -1 " + text + " +0")

    def test_blanks_make_pieces(self):
        self.assert_raised(BadText, {"piece": 0}, runs_from, " ")
        self.assert_raised(BadText, {"piece": 0}, runs_from, "   ")
        self.assert_raised(BadText, {"piece": 0}, runs_from, " +3")
        self.assert_raised(BadText, {"piece": 1}, runs_from, "+3 ")
        self.assert_raised(BadText, {"piece": 2}, runs_from, "+3 -1   +2")
        self.assert_raised(BadText, {"piece": 1}, runs_from, "+3 0 0")

    def test_back_and_forth(self):
        for runs in [(1,), (-1,), (3, -1, 2, -4), (GREAT, -GREAT, 1), (5, 5, -100)]:
            self.assertEqual(runs_from(runs_text(runs)), runs)


class ReadingSwingsTest(ErrorCase, unittest.TestCase):
    def test_examples(self):
        self.assertEqual(swings_from("4 1"), (4, 1))
        self.assertEqual(swings_from("-"), ())
        self.assert_raised(BadText, {"piece": 0}, swings_from, "1 4")

    def test_a_tuple_is_told(self):
        self.assertIs(type(swings_from("4 1")), tuple)
        self.assertIs(type(swings_from("-")), tuple)

    def test_right_texts(self):
        self.assertEqual(swings_from("7"), (7,))
        self.assertEqual(swings_from("3 3 2 2 2 1"), (3, 3, 2, 2, 2, 1))
        self.assertEqual(swings_from("10 9"), (10, 9))
        self.assertEqual(swings_from(text=str(GREAT) + " 1"), (GREAT, 1))

    def test_the_whole_text_is_one_piece(self):
        wrong = [
            "", " ", "- ", " -", "--", "- -", "-1", "4 -", "- 4", "+4", "4 +1", "4 0", "0", "04", "4 01", "00",
            "4  1", " 4", "4 ", "4 1 2", "9 10", "4,1", "4\n1", "4\n", "4\t1", "x", "\u0664", "4 \u00b9", "1_0", "4: 1",
        ]
        for text in wrong:
            with self.subTest(text):
                self.assert_raised(BadText, {"piece": 0}, swings_from, text)

    def test_back_and_forth(self):
        for swings in [(), (1,), (4, 1), (2, 2, 2), (GREAT, GREAT, 1)]:
            self.assertEqual(swings_from(swings_text(swings)), swings)


class ReadingHeapsTest(ErrorCase, unittest.TestCase):
    def test_examples(self):
        self.assertEqual(heap_from("0: 4 1"), (0, (4, 1)))
        self.assertEqual(heap_from("7: -"), (7, ()))
        self.assert_raised(BadText, {"piece": 0}, heap_from, "4 1")

    def test_right_texts(self):
        self.assertEqual(heap_from("0: -"), (0, ()))
        self.assertEqual(heap_from("10: 3 3"), (10, (3, 3)))
        self.assertEqual(heap_from(text=str(GREAT) + ": " + str(GREAT)), (GREAT, (GREAT,)))
        self.assertIs(type(heap_from("7: -")), tuple)
        self.assertIs(type(heap_from("7: 2 1")[1]), tuple)

    def test_the_whole_text_is_one_piece(self):
        wrong = [
            "", ":", ": ", ": 4", ": -", "0", "0:", "0: ", "0:4", "0:-", "0 : 4", "0:  4", "0: 4 ", " 0: 4", "00: 4",
            "01: 4", "-1: 4", "+1: 4", "x: 4", "-: 4", "0: 1 4", "0: 0", "0: 04", "0: 4 0", "0: +4", "0: --", "0: 3: 2",
            "0 0: 4", "0: 4\n", "0:\n4", "\u0660: 4", "0: 4  1", "1_0: 4",
        ]
        for text in wrong:
            with self.subTest(text):
                self.assert_raised(BadText, {"piece": 0}, heap_from, text)

    def test_back_and_forth(self):
        for heap in [(0, ()), (7, ()), (0, (4, 1)), (GREAT, (GREAT, 2, 2))]:
            self.assertEqual(heap_from(heap_text(heap)), heap)


class LinesTest(unittest.TestCase):
    def test_example(self):
        one, other = Year((3, -1, 2, -4)), Year((2, -3, 3, -2))
        self.assertEqual(lines_of(one, other), ["0: 0 and 0", "1: 4 and 3", "2: 5 and 5"])
        self.assertEqual(lines_of(other, one), ["0: 0 and 0", "1: 3 and 4", "2: 5 and 5"])

    def test_the_longer_one_tells_how_many(self):
        dry, even, wet = Year((1, -3)), Year((3, -1, 2, -4)), Year((5,))
        self.assertEqual(lines_of(dry, even), ["0: 2 and 0", "1: 3 and 4", "2: 3 and 5"])
        self.assertEqual(lines_of(even, dry), ["0: 0 and 2", "1: 4 and 3", "2: 5 and 3"])
        self.assertEqual(lines_of(wet, dry), ["0: 0 and 2", "1: 0 and 3"])
        self.assertEqual(lines_of(wet, Year((-4,))), ["0: 0 and 4"])

    def test_names_and_new_lists(self):
        one, other = Year((GREAT, -GREAT)), Year((-1,))
        told = lines_of(one=one, other=other)
        self.assertIs(type(told), list)
        self.assertEqual(told, ["0: 0 and 1", "1: " + str(GREAT) + " and 1"])
        told.append("more")
        self.assertEqual(len(lines_of(one, other)), 2)


if __name__ == "__main__":
    unittest.main()

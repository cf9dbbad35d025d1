"""Promise 21: answers to requests, and promise 2 for them."""

import random
import unittest

from allbutts.board import Board
from allbutts.desk import answers
from allbutts.errors import BadLine, Known, NoPlace, NothingDone, NoYear
from allbutts.lead import alike, never_more
from allbutts.longrun import bought, least_butt, spilled
from allbutts.made import fewest_runs
from allbutts.most import least_bought, most_bought
from allbutts.texts import heap_text, runs_from, swings_from
from allbutts.years import Year
from tests.helpers import GREAT, CallCase, ErrorCase

# For each first word a line that is right, whatever the Board.
RIGHT = [
    "year dry +3 -1 +2 -4", "drop dry", "rename dry wet", "add dry 0 -1", "remove dry 0", "move dry 0 1", "undo", "names",
    "runs dry", "heap dry", "bought dry 2", "spilled dry 2", "butt dry 1", "never dry wet", "alike dry wet", "least 2",
    "worst 2 +3 -1", "best 2 +3 -1", "fewest 0 0 4 1",
]
NO_NAMES = ("Dry", "dry1", "dry-", "dryandwet", "a_b", "1", "+1", "-", "")
NO_NUMBERS = ("-1", "+1", "01", "00", "1.0", "x", "1a", "0x1", "1e3", "--1", "-0", "1,", "")
NO_RUNS = ("3", "+0", "-0", "+03", "3+", "+", "-", "+-3", "++3", "+3.", "+x", "x", "")
NO_SWINGS = ("1 4", "4 0", "0", "-1", "+4", "04", "4 01", "- 4", "4 -", "-4", "--", "4 1 2", "x", "4,1")


def lines(*rows):
    return answers("\n".join(rows))


class ExamplesTest(ErrorCase, unittest.TestCase):
    def test_two_years(self):
        told = answers(
            "year dry +3 -1 +2 -4\nyear even +2 -3 +3 -2\nnever even dry\nnever dry even\nalike dry even\nheap dry\n"
            "heap even\nbought dry 2\nspilled dry 2\nbutt even 1\nbutt dry 0\nleast 2\nleast 0\nnames")
        self.assertEqual(told, [
            "done", "done", "yes", "no", "no", "0: 4 1", "0: 3 2", "2", "2", "2", "4", "even", "dry even", "dry even"])

    def test_deeds(self):
        told = answers(
            "names\nyear x +5 -7\nadd x 0 -1\nruns x\nadd x 9 +1\nmove x 0 2\nruns x\nbutt x 2\nbutt x 3\nremove x 1\n"
            "heap x\nundo\nundo\nundo\nundo\nundo\nleast 5")
        self.assertEqual(told, [
            "-", "done", "done", "-1 +5 -7", "refused NoPlace", "done", "+5 -7 -1", "none", "5", "done", "0: 1", "done",
            "done", "done", "done", "refused NothingDone", "-"])

    def test_orders_and_others(self):
        told = answers(
            "worst 2 +3 -1 +2 -4\nbest 2 +3 -1 +2 -4\nfewest 0 0 4 1\nfewest 0 0 -\nfewest 3 0 -\nyear a +1\nyear a +2\n"
            "rename a a\nremove a 0\nbought b 0\nnever a b\nheap a")
        self.assertEqual(told, [
            "3", "2", "4", "none", "1", "done", "refused Known", "refused Known", "refused NoPlace", "refused NoYear",
            "refused NoYear", "0: -"])
        self.assertEqual(answers(""), [])

    def test_wrong_lines(self):
        self.assert_raised(BadLine, {"number": 1}, answers, "names\nyear a 3 -1")
        self.assert_raised(BadLine, {"number": 1}, answers, "names\n")


class LinesTest(ErrorCase, unittest.TestCase):
    def assert_wrong(self, *wrong):
        """Each of these lines is wrong alone, and behind right ones, ahead of other wrong ones."""
        for line in wrong:
            if line != "":
                self.assert_raised(BadLine, {"number": 0}, answers, line)
            self.assert_raised(BadLine, {"number": 2}, answers, "\n".join(["names", "year a +1", line]))
            self.assert_raised(BadLine, {"number": 1}, answers, "\n".join(["undo", line, "x", "", "names"]))

    def test_right_ones(self):
        for line in RIGHT:
            self.assertEqual(len(answers(line)), 1, line)

    def test_blanks(self):
        for line in RIGHT:
            self.assert_wrong(" " + line, line + " ", "  " + line, line + "  ")
            words = line.split(" ")
            for place in range(1, len(words)):
                self.assert_wrong(" ".join(words[:place]) + "  " + " ".join(words[place:]))
        self.assert_wrong("", " ", "  ")

    def test_empty_lines(self):
        self.assert_raised(BadLine, {"number": 0}, answers, "\n")
        self.assert_raised(BadLine, {"number": 0}, answers, "\nnames")
        self.assert_raised(BadLine, {"number": 1}, answers, "names\n\nnames")
        self.assert_raised(BadLine, {"number": 2}, answers, "names\nnames\n")

    def test_first_words(self):
        self.assert_wrong("x", "Names", "NAMES", "name", "namess", "undo undo", "names names", "names a", "undo 1", "redo")
        self.assert_wrong("dry", "puts a +1", "year", "done", "-", "0", "+3 -1", "put dry +1", "board", "kind")

    def test_too_few_and_too_many_words(self):
        for line in RIGHT:
            words = line.split(" ")
            # What is left of a row of RUNs, or of SWINGS, may well be right.
            least = {"year": 3, "worst": 3, "best": 3, "fewest": 4}.get(words[0], len(words))
            for many in range(1, least):
                self.assert_wrong(" ".join(words[:many]))
            if least == len(words) and words[0] not in ("year", "worst", "best", "fewest"):
                self.assert_wrong(line + " 1", line + " a", line + " +1", line + " -")

    def test_names(self):
        for name in NO_NAMES:
            for line in ("year {} +1", "drop {}", "rename {} a", "rename a {}", "add {} 0 +1", "remove {} 0", "move {} 0 0",
                         "runs {}", "heap {}", "bought {} 0", "spilled {} 0", "butt {} 0", "never {} a", "never a {}",
                         "alike {} a", "alike a {}"):
                self.assert_wrong(line.format(name))
        # Each word is also a NAME.
        for name in ("year", "undo", "names", "zzzzzzzz", "a", "none", "refused"):
            told = lines(f"year {name} +1", f"runs {name}", "names", f"rename {name} best", "names", "drop best", "names")
            self.assertEqual(told, ["done", "+1", name, "done", "best", "done", "-"])

    def test_numbers(self):
        for number in NO_NUMBERS:
            for line in ("add a {} +1", "remove a {}", "move a {} 0", "move a 0 {}", "bought a {}", "spilled a {}",
                         "butt a {}", "least {}", "worst {} +1", "best {} +1", "fewest {} 0 1", "fewest 0 {} 1"):
                self.assert_wrong(line.format(number))

    def test_runs(self):
        for run in NO_RUNS:
            for line in ("year a {}", "year a +1 {}", "year a {} +1", "add a 0 {}", "worst 0 {}", "best 0 {}", "best 0 -1 {}"):
                self.assert_wrong(line.format(run))
        self.assert_wrong("add a 0 +1 -1")
        forty = " ".join(["+1", "-2"] * 20)
        self.assertEqual(lines(f"year a {forty}", "runs a", f"worst 0 {forty}"), ["done", forty, "40"])
        self.assert_wrong(f"year a {forty} +1", f"worst 0 {forty} -1", f"best 0 {forty} +1", f"year a {forty} {forty}")

    def test_swings(self):
        for swings in NO_SWINGS:
            self.assert_wrong(f"fewest 0 0 {swings}", f"fewest 3 5 {swings}")
        told = lines("fewest 0 0 4 4 1", "fewest 0 0 1", "fewest 2 0 -", "fewest 1 1 5", "fewest 0 9 2 2 2 2")
        self.assertEqual(told, ["6", "2", "1", "none", "8"])

    def test_the_first_wrong_line_decides(self):
        # All lines are read ahead of any deed, so no answer is told.
        self.assert_raised(BadLine, {"number": 3}, answers, "year a +1\nyear a +1\nundo\nyear b\nx\n")
        self.assert_raised(BadLine, {"number": 59}, answers, "\n".join(["names"] * 59 + ["name"]))
        self.assertEqual(lines(*["names"] * 60), ["-"] * 60)


class RefusedTest(unittest.TestCase):
    def test_no_year(self):
        asked = [
            "drop b", "rename b a", "rename b c", "add b 0 +1", "add b 9 +1", "remove b 0", "move b 0 0", "runs b", "heap b",
            "bought b 0", "spilled b 0", "butt b 0", "never b a", "never a b", "never b c", "alike b a", "alike a b",
        ]
        told = lines("year a +1 -1", *asked, "names", "runs a", "undo", "undo")
        self.assertEqual(told, ["done"] + ["refused NoYear"] * len(asked) + ["a", "+1 -1", "done", "refused NothingDone"])

    def test_known_and_no_place(self):
        told = lines(
            "year a +1 -1", "year b +7", "year a +2", "rename a b", "rename a a", "add a 3 +1", "add b 2 -1", "remove a 2",
            "remove b 0", "move a 2 0", "move a 0 2", "move b 0 1", "runs a", "runs b", "undo", "undo", "undo")
        right = ["refused Known"] * 3 + ["refused NoPlace"] * 7
        self.assertEqual(told, ["done"] * 2 + right + ["+1 -1", "+7", "done", "done", "refused NothingDone"])

    def test_nothing_done(self):
        told = lines("undo", "year a +1", "undo", "undo", "names")
        self.assertEqual(told, ["refused NothingDone", "done", "done", "refused NothingDone", "-"])


class AnswersTest(CallCase, unittest.TestCase):
    def test_of_the_years(self):
        chance = random.Random(12)
        for _ in range(30):
            rows = {name: [chance.choice((1, -1)) * chance.randrange(1, 9) for _ in range(chance.randrange(1, 7))]
                    for name in ("a", "b", "c")}
            years = {name: Year(runs) for name, runs in rows.items()}
            asked = [f"year {name} {year.text}" for name, year in years.items()]
            right = ["done"] * 3
            for butt in (0, 1, 3, 8):
                for name, year in years.items():
                    least = least_butt(year, butt)
                    asked += [f"bought {name} {butt}", f"spilled {name} {butt}", f"butt {name} {butt}"]
                    right += [str(bought(year, butt)), str(spilled(year, butt)), "none" if least is None else str(least)]
                table = {name: bought(year, butt) for name, year in years.items()}
                asked.append(f"least {butt}")
                right.append(" ".join(name for name in "abc" if table[name] == min(table.values())))
            self.assertEqual(lines(*asked), right)
            self.some_pairs(years)

    def some_pairs(self, years):
        asked, right = [f"year {name} {year.text}" for name, year in years.items()], ["done"] * 3
        for name, one in years.items():
            asked += [f"runs {name}", f"heap {name}"]
            right += [one.text, heap_text(one.heap)]
            for to, other in years.items():
                asked += [f"never {name} {to}", f"alike {name} {to}"]
                right += ["yes" if never_more(one, other) else "no", "yes" if alike(one, other) else "no"]
        self.assertEqual(lines(*asked), right)

    def test_of_orders(self):
        for text in ("+3 -1 +2 -4", "+5", "-5 -5", "+1 +2 +3 -6", "+2 -2 +2 -2 +1"):
            runs = runs_from(text)
            for butt in (0, 1, 2, 4):
                told = lines(f"worst {butt} {text}", f"best {butt} {text}")
                self.assertEqual(told, [str(most_bought(runs, butt)), str(least_bought(runs, butt))])

    def test_of_made_years(self):
        for wants, spare, swings in ((0, 0, "4 1"), (3, 0, "-"), (0, 0, "-"), (1, 2, "5 5"), (0, 7, "2 2 2")):
            right = fewest_runs(wants, spare, swings_from(swings))
            self.assertEqual(lines(f"fewest {wants} {spare} {swings}"), ["none" if right is None else str(right)])

    def test_like_a_board(self):
        chance = random.Random(13)
        for _ in range(60):
            board, asked, right = Board(), [], []
            for _ in range(25):
                word, name = chance.choice(("put", "put", "drop", "rename", "add", "remove", "move", "undo")), chance.choice("abc")
                place, to, run = chance.randrange(4), chance.randrange(4), chance.choice((2, -2, 5))
                values, line = {
                    "put": ((name, Year((run, -1))), f"year {name} {run:+d} -1"), "drop": ((name,), f"drop {name}"),
                    "rename": ((name, "b"), f"rename {name} b"), "add": ((name, place, run), f"add {name} {place} {run:+d}"),
                    "remove": ((name, place), f"remove {name} {place}"), "undo": ((), "undo"),
                    "move": ((name, place, to), f"move {name} {place} {to}"),
                }[word]
                asked += [line, "names"]
                right += [done_straight(board, word, values), " ".join(board.names) or "-"]
            asked += [f"runs {name}" for name in board.names]
            right += [board[name].text for name in board.names]
            self.assertEqual(lines(*asked), right)

    def test_great_numbers(self):
        told = lines(f"year a +{GREAT} -{GREAT} -1", "heap a", f"bought a {GREAT - 1}", "butt a 0", "butt a 1", "bought a 0")
        self.assertEqual(told, ["done", f"1: {GREAT}", "2", "none", str(GREAT), str(GREAT + 1)])
        self.assertEqual(lines("year a +1", f"add a {GREAT} +1", f"remove a {GREAT}"), ["done"] + ["refused NoPlace"] * 2)

    def test_each_text_has_its_own_board(self):
        self.assertEqual((lines("year a +1", "names"), lines("names", "undo")), (["done", "a"], ["-", "refused NothingDone"]))

    def test_how_it_is_called(self):
        self.assert_told(["done", "a"], answers, text="year a +1\nnames")
        self.assert_told([], answers, text="")
        answers("").append(None)
        self.assertEqual(answers(""), [])


def done_straight(board, word, values):
    """The answer to a deed by what a Board does."""
    try:
        getattr(board, word)(*values)
    except (NoYear, Known, NoPlace, NothingDone) as error:
        return f"refused {type(error).__name__}"
    return "done"


if __name__ == "__main__":
    unittest.main()

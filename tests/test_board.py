"""Promise 20: the class Board, whose deeds can be undone, and promise 2 for it."""

import random
import unittest

from allbutts.board import Board
from allbutts.errors import Known, NoPlace, NothingDone, NoYear
from allbutts.lead import never_more
from allbutts.longrun import bought, least_butt, spilled
from allbutts.years import Year
from tests.helpers import GREAT, CallCase, ErrorCase

DRY, EVEN = Year((3, -1, 2, -4)), Year((2, -3, 3, -2))
NAMES = ("a", "b", "dry", "even", "longname")


def board_of(**years):
    board = Board()
    for name, year in years.items():
        board.put(name, year)
    return board


def runs_of(board):
    """For each NAME of a Board the RUNs of its Year."""
    return {name: board[name].runs for name in board.names}


class ExamplesTest(ErrorCase, unittest.TestCase):
    def test_a_board(self):
        board = Board()
        self.assertEqual((board.put("dry", DRY), board.put("even", EVEN)), (None, None))
        self.assertEqual((board.names, len(board), board.deeds), (("dry", "even"), 2, 2))
        self.assertEqual((board.bought_by(2), board.spilled_by(2)), ((("dry", 2), ("even", 1)),) * 2)
        self.assertEqual((board.least_bought(2), board.least_bought(0)), (("even",), ("dry", "even")))
        self.assertEqual(board.least_butts(1), (("dry", 3), ("even", 2)))
        self.assertEqual((board.never_more("even", "dry"), board.never_more("dry", "even")), (True, False))
        self.follow(board)

    def follow(self, board):
        self.assertEqual((board.add("even", 4, -1), board["even"].runs), (None, (2, -3, 3, -2, -1)))
        self.assertEqual(board.bought_by(2), (("dry", 2), ("even", 2)))
        self.assertEqual((board.move("even", 4, 0), board["even"].runs), (None, (-1, 2, -3, 3, -2)))
        self.assertEqual((board.remove("even", 2), board["even"].runs), (None, (-1, 2, 3, -2)))
        copy = board.twin()
        self.assertEqual((board.undo(), board["even"].runs), (None, (-1, 2, -3, 3, -2)))
        self.assertEqual((copy == board, copy.deeds, board.deeds), (False, 0, 4))
        self.assertEqual((board.rename("even", "wet"), board.drop("dry"), board.names), (None, None, ("wet",)))
        self.assertEqual((board.undo(), board.undo(), board.names), (None, None, ("dry", "even")))
        self.assert_raised(NoPlace, {"number": 6}, board.add, "even", 6, 1)
        self.assert_raised(Known, {"name": "even"}, board.rename, "dry", "even")
        self.assert_raised(NoYear, {"name": "wet"}, board.never_more, "wet", "cold")


class DeedsTest(ErrorCase, unittest.TestCase):
    def test_put_and_drop(self):
        board = board_of(b=DRY)
        board.put(name="a", year=EVEN)
        self.assertEqual((board.names, board["a"], board["b"]), (("a", "b"), EVEN, DRY))
        self.assert_nothing_done(board, Known, {"name": "a"}, board.put, "a", EVEN)
        self.assert_nothing_done(board, Known, {"name": "b"}, board.put, name="b", year=EVEN)
        self.assert_nothing_done(board, NoYear, {"name": "c"}, board.drop, "c")
        self.assertIsNone(board.drop(name="b"))
        self.assertEqual((board.names, board.deeds), (("a",), 3))
        board.put("b", EVEN)
        self.assertEqual(runs_of(board), {"a": EVEN.runs, "b": EVEN.runs})

    def assert_nothing_done(self, board, kind, kept, call, *values, **named):
        before = runs_of(board), board.deeds
        self.assert_raised(kind, kept, call, *values, **named)
        self.assertEqual((runs_of(board), board.deeds), before)

    def test_rename(self):
        board = board_of(a=DRY, b=EVEN)
        self.assert_nothing_done(board, NoYear, {"name": "x"}, board.rename, "x", "y")
        # First the NAME that is not there, then the one that is there already.
        self.assert_nothing_done(board, NoYear, {"name": "x"}, board.rename, "x", "a")
        self.assert_nothing_done(board, Known, {"name": "b"}, board.rename, "a", "b")
        self.assert_nothing_done(board, Known, {"name": "a"}, board.rename, "a", "a")
        self.assertIsNone(board.rename(name="a", new="c"))
        self.assertEqual(runs_of(board), {"b": EVEN.runs, "c": DRY.runs})
        board.rename("b", "a")
        self.assertEqual((board.names, board["a"], board.deeds), (("a", "c"), EVEN, 4))

    def test_add(self):
        for place in range(5):
            board = board_of(a=DRY)
            self.assertIsNone(board.add("a", place, 9))
            right = list(DRY.runs)
            right.insert(place, 9)
            self.assertEqual((board["a"].runs, board["a"].runs[place], board.deeds), (tuple(right), 9, 2))
        board = board_of(a=DRY)
        for place in (-1, 5, 6, GREAT, -GREAT):
            self.assert_nothing_done(board, NoPlace, {"number": place}, board.add, "a", place, 1)
            self.assert_nothing_done(board, NoYear, {"name": "b"}, board.add, "b", place, 1)
        self.assert_nothing_done(board, NoPlace, {"number": 5}, board.add, name="a", place=5, run=-1)

    def test_remove(self):
        for place in range(4):
            board = board_of(a=DRY)
            self.assertIsNone(board.remove(name="a", place=place))
            self.assertEqual(board["a"].runs, DRY.runs[:place] + DRY.runs[place + 1:])
        board = board_of(a=DRY, b=Year((7,)))
        for place in (-1, 4, GREAT, -GREAT):
            self.assert_nothing_done(board, NoPlace, {"number": place}, board.remove, "a", place)
            self.assert_nothing_done(board, NoYear, {"name": "x"}, board.remove, "x", place)
        # The only RUN stays.
        for place in (-1, 0, 1):
            self.assert_nothing_done(board, NoPlace, {"number": place}, board.remove, "b", place)

    def test_move(self):
        for place in range(4):
            for to in range(4):
                board = board_of(a=DRY)
                self.assertIsNone(board.move("a", place, to))
                right = list(DRY.runs)
                right.insert(to, right.pop(place))
                self.assertEqual((board["a"].runs, board["a"].runs[to]), (tuple(right), DRY.runs[place]))
                # Also one that leaves all as it was is a deed.
                self.assertEqual((board.deeds, board.undo(), board["a"]), (2, None, DRY))
        board = board_of(a=DRY, b=Year((7,)))
        for wrong in (-1, 4, GREAT, -GREAT):
            self.assert_nothing_done(board, NoPlace, {"number": wrong}, board.move, "a", wrong, 9)
            self.assert_nothing_done(board, NoPlace, {"number": wrong}, board.move, "a", wrong, 0)
            self.assert_nothing_done(board, NoPlace, {"number": wrong}, board.move, name="a", place=0, to=wrong)
            self.assert_nothing_done(board, NoYear, {"name": "x"}, board.move, "x", wrong, wrong)
        self.assertEqual((board.move("b", 0, 0), board["b"].runs, board.deeds), (None, (7,), 3))
        self.assert_nothing_done(board, NoPlace, {"number": 1}, board.move, "b", 0, 1)

    def test_undo(self):
        board = Board()
        self.assert_nothing_done(board, NothingDone, {}, board.undo)
        board.put("a", DRY)
        self.assertEqual((board.undo(), board.names, board.deeds), (None, (), 0))
        self.assert_nothing_done(board, NothingDone, {}, board.undo)
        # An undo is no deed: behind it the deeds ahead of it are undone, then there is nothing more.
        for name in "abc":
            board.put(name, DRY)
        board.undo()
        board.undo()
        self.assertEqual((board.names, board.deeds), (("a",), 1))
        board.put("d", EVEN)
        board.undo()
        board.undo()
        self.assertEqual((board.names, board.deeds), ((), 0))

    def test_many_deeds(self):
        chance = random.Random(9)
        for _ in range(40):
            board, states = Board(), [{}]
            for _ in range(60):
                self.some_deed(chance, board, states)
                self.assertEqual((runs_of(board), board.deeds, len(board)), (states[-1], len(states) - 1, len(states[-1])))
            self.assertEqual((board.twin(), board.twin().deeds), (board, 0))
            while len(states) > 1:
                board.undo()
                states.pop()
                self.assertEqual((runs_of(board), board.deeds), (states[-1], len(states) - 1))
            self.assert_raised(NothingDone, {}, board.undo)

    def some_deed(self, chance, board, states):
        """Does something that may be wrong, and notes how the RUNs must be then."""
        word = chance.choice(("put", "put", "drop", "rename", "add", "add", "remove", "move", "undo"))
        name, new, place, to = chance.choice(NAMES), chance.choice(NAMES), chance.randrange(-1, 5), chance.randrange(-1, 5)
        run = chance.choice((1, -2, 3, -4))
        if word == "undo":
            if len(states) > 1:
                board.undo()
                states.pop()
            return
        values = {
            "put": (name, Year((run, -run))), "drop": (name,), "rename": (name, new), "add": (name, place, run),
            "remove": (name, place), "move": (name, place, to),
        }[word]
        right = deed_straight(states[-1], word, *values)
        if isinstance(right, dict):
            self.assertIsNone(getattr(board, word)(*values))
            states.append(right)
        else:
            self.assert_raised(*right, getattr(board, word), *values)


def deed_straight(years, word, name, *rest):
    """The RUNs of all Years behind a deed, straight from the document; or the error and what it keeps."""
    years = {other: list(runs) for other, runs in years.items()}
    if word == "put":
        if name in years:
            return Known, {"name": name}
        years[name] = rest[0].runs
    elif name not in years:
        return NoYear, {"name": name}
    elif word == "drop":
        del years[name]
    elif word == "rename":
        if rest[0] in years:
            return Known, {"name": rest[0]}
        years[rest[0]] = years.pop(name)
    else:
        many = len(years[name]) + (1 if word == "add" else 0)
        for place in rest[:2] if word == "move" else rest[:1]:
            if not 0 <= place < many or (word == "remove" and many == 1):
                return NoPlace, {"number": place}
        run = rest[1] if word == "add" else years[name].pop(rest[0])
        if word != "remove":
            years[name].insert(rest[1] if word == "move" else rest[0], run)
    return {other: tuple(runs) for other, runs in years.items()}


class BoardTest(CallCase, ErrorCase, unittest.TestCase):
    def test_without_years(self):
        board = Board()
        self.assertEqual((board.names, board.deeds, len(board), "a" in board), ((), 0, 0, False))
        self.assertEqual((board.bought_by(3), board.spilled_by(0), board.least_bought(3), board.least_butts(0)), ((),) * 4)
        self.assert_raised(NoYear, {"name": "a"}, lambda: board["a"])
        self.assert_raised(NoYear, {"name": "a"}, board.never_more, "a", "b")
        self.assertEqual((board.twin(), board == Board()), (board, True))

    def test_names(self):
        board = board_of(b=DRY, longname=EVEN, a=DRY)
        self.assertEqual((board.names, len(board)), (("a", "b", "longname"), 3))
        self.assertEqual(("b" in board, "c" in board, board["longname"]), (True, False, EVEN))
        self.assert_raised(NoYear, {"name": "c"}, lambda: board["c"])

    def test_all_years(self):
        chance = random.Random(10)
        years = {name: Year(chance.choice((1, -1)) * chance.randrange(1, 9) for _ in range(6)) for name in NAMES}
        years["b"] = years["even"]
        board = board_of(**years)
        for butt in range(12):
            table = {name: bought(years[name], butt) for name in sorted(years)}
            self.assertEqual(board.bought_by(butt), tuple(table.items()))
            self.assertEqual(board.spilled_by(butt), tuple((name, spilled(years[name], butt)) for name in table))
            least = tuple(name for name in table if table[name] == min(table.values()))
            self.assertEqual(board.least_bought(butt), least)
            self.assertEqual(board.least_butts(butt), tuple((name, least_butt(years[name], butt)) for name in table))
        for name in NAMES:
            for to in NAMES:
                self.assertIs(board.never_more(name, to), never_more(years[name], years[to]))

    def test_least_butts_that_are_none(self):
        board = board_of(a=DRY, b=Year((-5,)), c=Year((-5, 1)))
        self.assertEqual(board.least_butts(0), (("a", 4), ("b", None), ("c", None)))
        self.assertEqual(board.least_butts(4), (("a", 1), ("b", None), ("c", 1)))

    def test_the_first_name_that_is_none(self):
        board = board_of(a=DRY, b=EVEN)
        self.assert_raised(NoYear, {"name": "x"}, board.never_more, "x", "a")
        self.assert_raised(NoYear, {"name": "y"}, board.never_more, "a", "y")
        self.assert_raised(NoYear, {"name": "x"}, board.never_more, to="y", name="x")

    def test_equal_ones(self):
        one, other = board_of(a=DRY, b=EVEN), board_of(b=EVEN, a=DRY)
        self.assertTrue(one == other and not one != other)
        one.move("a", 0, 0)
        self.assertTrue(one == other)
        one.move("a", 0, 1)
        self.assertTrue(one != other and not one == other)
        one.undo()
        one.rename("b", "c")
        self.assertTrue(one != other)
        for thing in (None, 0, {"a": DRY}, (("a", DRY),), "a", DRY):
            self.assertFalse(other == thing)
            self.assertTrue(other != thing)

    def test_twins(self):
        board = board_of(a=DRY, b=EVEN)
        twin = board.twin()
        self.assertEqual((twin, twin.deeds, board.deeds), (board, 0, 2))
        self.assert_raised(NothingDone, {}, twin.undo)
        twin.add("a", 0, 5)
        board.drop("b")
        self.assertEqual((runs_of(twin), twin.deeds), ({"a": (5,) + DRY.runs, "b": EVEN.runs}, 1))
        self.assertEqual((runs_of(board), board.deeds), ({"a": DRY.runs}, 3))
        twin.undo()
        self.assertEqual((runs_of(twin), board.undo(), twin == board), ({"a": DRY.runs, "b": EVEN.runs}, None, True))

    def test_what_can_not_be_done_with_it(self):
        for board in (Board(), board_of(a=DRY)):
            for call in (iter, list, tuple, sorted):
                with self.assertRaises(TypeError):
                    call(board)
            for name in ("names", "deeds"):
                with self.assertRaises(AttributeError):
                    setattr(board, name, None)

    def test_great_boards(self):
        board = Board()
        for place in range(20):
            board.put("abcdefghijklmnopqrstuvwxyz"[place] * 8, Year((GREAT, place - GREAT)))
        for _ in range(38):
            board.add("a" * 8, 0, 1)
        self.assertEqual((len(board), board.deeds, len(board["aaaaaaaa"])), (20, 58, 40))
        self.assertEqual((board.least_bought(0), board.bought_by(0)[1]), (("t" * 8,), ("b" * 8, GREAT - 1)))
        for _ in range(58):
            board.undo()
        self.assertEqual((board, board.deeds), (Board(), 0))

    def test_how_they_are_called(self):
        board = board_of(dry=DRY, even=EVEN)
        self.assert_told((("dry", 2), ("even", 1)), board.bought_by, butt=2)
        self.assert_told((("dry", 2), ("even", 1)), board.spilled_by, butt=2)
        self.assert_told(("even",), board.least_bought, butt=2)
        self.assert_told((("dry", 3), ("even", 2)), board.least_butts, most=1)
        self.assert_told(True, board.never_more, name="even", to="dry")
        self.assertIsNone(board.add(name="dry", place=0, run=1))
        self.assertIsNone(board.move(name="dry", place=0, to=1))
        self.assertIsNone(board.remove(name="dry", place=1))
        self.assertEqual((board.deeds, board["dry"]), (5, DRY))


if __name__ == "__main__":
    unittest.main()

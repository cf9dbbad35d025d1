"""A desk: requests, a line each, that are answered by one Board."""

from allbutts.board import Board
from allbutts.errors import BadLine, BadText, Known, NoPlace, NothingDone, NoYear
from allbutts.lead import alike, never_more
from allbutts.longrun import bought, least_butt, spilled
from allbutts.made import fewest_runs
from allbutts.most import least_bought, most_bought
from allbutts.pieces import is_number_text, runs_in
from allbutts.texts import heap_text, runs_from, swings_from
from allbutts.years import MOST_RUNS, Year

MOST_LETTERS = 8
LETTERS = "abcdefghijklmnopqrstuvwxyz"

# What stands behind the first word of a request; runs and swings take all that is left of the line.
FORMS = {
    "year": ("name", "runs"),
    "drop": ("name",),
    "rename": ("name", "name"),
    "add": ("name", "number", "run"),
    "remove": ("name", "number"),
    "move": ("name", "number", "number"),
    "undo": (),
    "names": (),
    "runs": ("name",),
    "heap": ("name",),
    "bought": ("name", "number"),
    "spilled": ("name", "number"),
    "butt": ("name", "number"),
    "never": ("name", "name"),
    "alike": ("name", "name"),
    "least": ("number",),
    "worst": ("number", "runs"),
    "best": ("number", "runs"),
    "fewest": ("number", "number", "swings"),
}


def answers(text):
    """The answers to the lines of the text; raises BadLine(number)."""
    requests = _requests(text)
    board = Board()
    return [_answer(board, word, values) for word, values in requests]


def _requests(text):
    """For each line its first word and the values behind it; raises BadLine(number)."""
    found = []
    lines = text.split("\n") if text != "" else []
    for number, line in enumerate(lines):
        try:
            found.append(_request(line))
        except BadText:
            raise BadLine(number) from None
    return found


def _request(line):
    """The first word of the line and the values behind it; raises BadText if the line is not so written."""
    word, _, _ = line.partition(" ")
    if word not in FORMS:
        raise BadText(0)
    form = FORMS[word]
    pieces = line.split(" ", len(form))
    if pieces[0] != word or len(pieces) != len(form) + 1:
        raise BadText(0)
    return word, [_value(kind, piece) for kind, piece in zip(form, pieces[1:])]


def _value(kind, piece):
    """What is written in the piece; raises BadText if it is not written as this kind."""
    reader = READERS[kind]
    return reader(piece)


def _name_from(piece):
    if len(piece) == 0 or len(piece) > MOST_LETTERS or not all([sign in LETTERS for sign in piece]):
        raise BadText(0)
    return piece


def _number_from(piece):
    if not is_number_text(piece):
        raise BadText(0)
    return int(piece)


def _run_from(piece):
    return runs_in([piece])[0]


def _year_runs_from(piece):
    runs = runs_from(piece)
    if len(runs) > MOST_RUNS:
        raise BadText(MOST_RUNS)
    return runs


def _swings_from(piece):
    return swings_from(piece)


READERS = {
    "name": _name_from,
    "number": _number_from,
    "run": _run_from,
    "runs": _year_runs_from,
    "swings": _swings_from,
}


def _answer(board, word, values):
    """The answer to a request."""
    action = ACTIONS[word]
    try:
        told = action(board, *values)
    except NoYear:
        return "refused NoYear"
    except Known:
        return "refused Known"
    except NoPlace:
        return "refused NoPlace"
    except NothingDone:
        return "refused NothingDone"
    return "-" if told == "" else told


def _year(board, name, runs):
    board.put(name, Year(runs))
    return "done"


def _drop(board, name):
    board.drop(name)
    return "done"


def _rename(board, name, new):
    board.rename(name, new)
    return "done"


def _add(board, name, place, run):
    board.add(name, place, run)
    return "done"


def _remove(board, name, place):
    board.remove(name, place)
    return "done"


def _move(board, name, place, to):
    board.move(name, place, to)
    return "done"


def _undo(board):
    board.undo()
    return "done"


def _names(board):
    return " ".join(board.names)


def _runs(board, name):
    return board[name].text


def _heap(board, name):
    return heap_text(board[name].heap)


def _bought(board, name, butt):
    return str(bought(board[name], butt))


def _spilled(board, name, butt):
    return str(spilled(board[name], butt))


def _butt(board, name, most):
    return _number_or_none(least_butt(board[name], most))


def _number_or_none(number):
    return "none" if number is None else str(number)


def _never(board, name, to):
    return _yes_or_no(never_more(board[name], board[to]))


def _alike(board, name, to):
    return _yes_or_no(alike(board[name], board[to]))


def _yes_or_no(holds):
    return "yes" if holds else "no"


def _least(board, butt):
    return " ".join(board.least_bought(butt))


def _worst(board, butt, runs):
    return str(most_bought(runs, butt))


def _best(board, butt, runs):
    return str(least_bought(runs, butt))


def _fewest(board, wants, spare, swings):
    return _number_or_none(fewest_runs(wants, spare, swings))


ACTIONS = {
    "year": _year,
    "drop": _drop,
    "rename": _rename,
    "add": _add,
    "remove": _remove,
    "move": _move,
    "undo": _undo,
    "names": _names,
    "runs": _runs,
    "heap": _heap,
    "bought": _bought,
    "spilled": _spilled,
    "butt": _butt,
    "never": _never,
    "alike": _alike,
    "least": _least,
    "worst": _worst,
    "best": _best,
    "fewest": _fewest,
}

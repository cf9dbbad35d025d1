"""Runs, swings and heaps as texts, and the texts read back."""

from allbutts.errors import BadText
from allbutts.pieces import is_number_text, is_size_text, runs_in


def runs_text(runs):
    """The runs with single blanks between, each with its sign ahead."""
    return " ".join([f"{run:+d}" for run in runs])


def swings_text(swings):
    """The swings with single blanks between, or - if there are none."""
    if len(swings) == 0:
        return "-"
    return " ".join([str(swing) for swing in swings])


def heap_text(heap):
    """What the heap wants, and its swings."""
    wants, swings = heap
    return f"{wants}: {swings_text(swings)}"


def runs_from(text):
    """The row of runs so written; raises BadText(piece)."""
    return runs_in(text.split(" "))


def swings_from(text):
    """The swings so written; raises BadText(0)."""
    if text == "-":
        return ()
    pieces = text.split(" ")
    if not all([is_size_text(piece) for piece in pieces]):
        raise BadText(0)
    swings = [int(piece) for piece in pieces]
    if swings != sorted(swings, reverse=True):
        raise BadText(0)
    return tuple(swings)


def heap_from(text):
    """The heap so written; raises BadText(0)."""
    # Where the mark is missing nothing is left for the swings, and no swings are written as nothing.
    wants, _, swings = text.partition(": ")
    if not is_number_text(wants):
        raise BadText(0)
    return int(wants), swings_from(swings)


def lines_of(one, other):
    """For each number k a line: what each year wants and its k greatest swings together."""
    most = max(len(one.swings), len(other.swings))
    return [f"{many}: {_first_sum(one, many)} and {_first_sum(other, many)}" for many in range(most + 1)]


def _first_sum(year, many):
    return year.wants + sum(year.swings[:many])

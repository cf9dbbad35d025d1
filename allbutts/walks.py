"""A year walked run by run, with a butt of one size and a first level."""

from allbutts.pieces import is_number


def is_level(butt, thing):
    """Whether so much water can be in the butt."""
    return is_number(thing) and 0 <= thing <= butt


def walked(year, butt, first):
    """For each run the triple of the level behind it, what is bought and what is spilled by it."""
    rows = []
    level = first
    for run in year.runs:
        wished = level + run
        level = max(0, min(butt, wished))
        rows.append((level, max(0, -wished), max(0, wished - butt)))
    return rows


def levels(year, butt, first):
    """The level behind each run."""
    return [level for level, _, _ in walked(year, butt, first)]


def level_after(year, butt, first):
    """The level behind the whole year."""
    return levels(year, butt, first)[-1]


def bought_in(year, butt, first):
    """What is bought in the whole year."""
    return sum([bought for _, bought, _ in walked(year, butt, first)])


def spilled_in(year, butt, first):
    """What is spilled in the whole year."""
    return sum([spilled for _, _, spilled in walked(year, butt, first)])


def walk_lines(year, butt, first):
    """For each run a line: the run, the level behind it, and what is bought and spilled, if anything."""
    rows = walked(year, butt, first)
    return [_line(run, row) for run, row in zip(year.runs, rows)]


def _line(run, row):
    level, bought, spilled = row
    line = f"{run:+d}: level {level}"
    if bought > 0:
        line = f"{line}, bought {bought}"
    if spilled > 0:
        line = f"{line}, spilled {spilled}"
    return line

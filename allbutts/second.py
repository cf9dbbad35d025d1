"""Several butts, one behind another: what runs over, and what is lacking, goes on to the next one."""

from allbutts.longrun import bought, least_butt, saved_by, spilled
from allbutts.pieces import is_number


def is_butts(thing):
    """Whether thing is butts: a tuple of at least one number from 0."""
    if not (isinstance(thing, tuple) and len(thing) > 0):
        return False
    return all([is_number(butt) and butt >= 0 for butt in thing])


def levels_behind(year, butts, firsts):
    """The levels of all butts behind each run of one year that begins at these."""
    rows = []
    levels = firsts
    for run in year.runs:
        levels = _levels_by(run, butts, levels)
        rows.append(levels)
    return rows


def _levels_by(run, butts, levels):
    """The levels behind one run."""
    found = []
    # What is left is rain that runs over, or below 0 watering that is lacking.
    left = run
    for butt, level in zip(butts, levels):
        behind = max(0, min(butt, level + left))
        left = left - (behind - level)
        found.append(behind)
    return tuple(found)


def _sizes_ahead(butts):
    """For each butt the size of all those ahead of it together."""
    return [sum(butts[:place]) for place in range(len(butts))]


def taken_from(year, butts):
    """How much is taken out of each butt in a year, in the long run."""
    # Each one saves what it gives.
    return tuple([saved_by(year, ahead, butt) for ahead, butt in zip(_sizes_ahead(butts), butts)])


def run_over(year, butts):
    """How much runs over out of each butt in a year, in the long run."""
    # Those ahead and this one spill together what one butt of their sizes would.
    return tuple([spilled(year, ahead + butt) for ahead, butt in zip(_sizes_ahead(butts), butts)])


def idle_butts(year, butts):
    """The places of the butts out of which nothing is taken in the long run."""
    return tuple([place for place, number in enumerate(taken_from(year, butts)) if number == 0])


def saves(year, butt, further):
    """How much less a year buys, in the long run, with a second butt behind the first one."""
    return saved_by(year, butt, further)


def least_second(year, butt, number):
    """The least size of a second butt that saves at least so much; None if no size does."""
    together = least_butt(year, bought(year, butt) - number)
    return None if together is None else max(0, together - butt)


def never_saves_more(one, other):
    """Whether a second butt never saves more in the one year than in the other, whatever the sizes."""
    return saves_against(one, other) is None


def saves_against(one, other):
    """Two butts with which the second one saves more in the one year than in the other; None if there are none."""
    swings = other.swings + (0,) * len(one.swings)
    for mine, yours in zip(one.swings, swings):
        if mine > yours:
            # A butt of 1 behind one of mine - 1 saves 1 for each swing from mine on: other has fewer of those.
            return mine - 1, 1
    return None


def is_saves_against(one, other, thing):
    """Whether thing is such a pair of two butts."""
    if not (is_butts(thing) and len(thing) == 2):
        return False
    butt, further = thing
    return saves(one, butt, further) > saves(other, butt, further)

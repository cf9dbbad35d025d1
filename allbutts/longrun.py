"""What a year buys and spills in the long run, when it comes again and again."""

from allbutts.heaps import bought_by_heap, butt_for
from allbutts.parts import part_of, through


def bought(year, butt):
    """What the year buys in the long run."""
    return bought_by_heap(year.heap, butt)


def spilled(year, butt):
    """What the year spills in the long run."""
    return bought_by_heap((year.spare, year.swings), butt)


def corners(year):
    """The pairs (butt, bought), ascending, between which what is bought falls evenly."""
    butts = sorted(set([0] + list(year.swings)))
    return tuple([(butt, bought(year, butt)) for butt in butts])


def least_butt(year, most):
    """The least butt with which at most so much is bought; None if there is none."""
    return butt_for(year.heap, most)


def enough(year):
    """The least butt with which no more is bought than the year wants."""
    return butt_for(year.heap, year.wants)


def saved_by(year, butt, more):
    """By how much less is bought if the butt is greater by more."""
    return bought(year, butt) - bought(year, butt + more)


def rests(year, butt):
    """The pair of the least and the greatest level at which a year ends as it begins."""
    return _rests_of(part_of(year.runs, butt))


def _rests_of(part):
    need, room, low, _, _ = part
    if low == need:
        return need, room
    # Each level from need to room sinks, until it ends as low as can be; or it rises, as high as can be.
    level = low if low < need else low + room - need
    return level, level


def settles(year, butt, first):
    """The least number of years behind which each year buys and spills what it does in the long run."""
    part = part_of(year.runs, butt)
    least, greatest = _rests_of(part)
    if least <= first <= greatest:
        return 0
    # Only at rest does a year buy and spill so; the first year leads into the levels that all move alike.
    behind, _, _ = through(part, first)
    need, _, low, _, _ = part
    if low == need:
        return 1
    way, step = abs(behind - least), abs(low - need)
    return 1 + (way + step - 1) // step

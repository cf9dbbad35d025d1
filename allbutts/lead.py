"""Two years side by side: with which butts one buys more than the other one, and how much more."""

from allbutts.heaps import excess, heap_compare, heap_within, most_over, most_over_butt, spans_over
from allbutts.pieces import is_number


def never_more(one, other):
    """Whether one buys at most as much as other with all butts."""
    return heap_within(one.heap, other.heap)


def spans_against(one, other):
    """All pairs (first, last) of butts between which one buys more; the last one is None where there is no end."""
    return tuple(spans_over(one.heap, other.heap))


def against(one, other):
    """The least butt with which one buys more; None if there is none."""
    spans = spans_against(one, other)
    return spans[0][0] if len(spans) > 0 else None


def is_against(one, other, thing):
    """Whether thing is a butt with which one buys more."""
    return is_number(thing) and thing >= 0 and excess(one.heap, other.heap, thing) > 0


def never_more_between(one, other, least, most):
    """Whether one buys at most as much with each butt from least to most."""
    if least > most:
        return True
    for first, last in spans_against(one, other):
        if first <= most and (last is None or last >= least):
            return False
    return True


def most_more(one, other):
    """The greatest number by which one buys more than other, over all butts."""
    return most_over(one.heap, other.heap)


def most_more_butt(one, other):
    """The least butt with which one buys more by the greatest number."""
    return most_over_butt(one.heap, other.heap)


def alike(one, other):
    """Whether both buy the same with all butts."""
    return one.heap == other.heap


def compare(one, other):
    """How what one buys compares with what other buys: alike, less, more or apart."""
    return heap_compare(one.heap, other.heap)


def never_spills_more(one, other):
    """Whether one spills at most as much as other with all butts."""
    return heap_within(_spilled_heap(one), _spilled_heap(other))


def most_spilled_more(one, other):
    """The greatest number by which one spills more than other, over all butts."""
    return most_over(_spilled_heap(one), _spilled_heap(other))


def _spilled_heap(year):
    """The heap that buys, with each butt, what the year spills."""
    return year.spare, year.swings

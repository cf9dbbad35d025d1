"""Two gardens, day by day: with a butt each, or with one butt in common."""

from allbutts.errors import OtherDays
from allbutts.heaps import bought_by_heap, most_over, most_over_butt
from allbutts.pieces import is_number
from allbutts.years import Year


def is_days(thing):
    """Whether thing is days: a tuple of at least one number."""
    return isinstance(thing, tuple) and len(thing) > 0 and all([is_number(number) for number in thing])


def year_of(days):
    """The Year with the numbers of the days as its runs, without the 0s; None if all are 0."""
    runs = [number for number in days if number != 0]
    return Year(runs) if len(runs) > 0 else None


def bought_on(days, butt):
    """What a year buys in the long run by this butt."""
    return bought_by_heap(_heap_of(days), butt)


def _heap_of(days):
    year = year_of(days)
    return (0, ()) if year is None else year.heap


def _check_days(one, other):
    if len(one) != len(other):
        raise OtherDays()


def common(one, other):
    """The days of both gardens together; raises OtherDays, as do all functions below."""
    _check_days(one, other)
    return tuple([mine + yours for mine, yours in zip(one, other)])


def apart_heap(one, other):
    """The heap of both gardens apart, with the best parting."""
    _check_days(one, other)
    wants, swings = _heap_of(one)
    other_wants, other_swings = _heap_of(other)
    many = max(len(swings), len(other_swings))
    sums = [mine + yours for mine, yours in zip(_filled(swings, many), _filled(other_swings, many))]
    return wants + other_wants, tuple(sums)


def _filled(swings, many):
    """The swings, with 0 for those that are not there, so that they are so many."""
    return list(swings) + [0] * (many - len(swings))


def common_heap(one, other):
    """The heap of the days in common."""
    return _heap_of(common(one, other))


def gain(one, other, butt, further):
    """What both buy apart, with a butt each, less what they buy in common with a butt of both sizes together."""
    together = bought_on(common(one, other), butt + further)
    return bought_on(one, butt) + bought_on(other, further) - together


def least_apart(one, other, butt):
    """The least that both buy apart, if this size is parted between them."""
    return bought_by_heap(apart_heap(one, other), butt)


def best_parting(one, other, butt):
    """The two sizes, together this one, by which both buy the least apart: of several the least first size."""
    _check_days(one, other)
    mine, yours = _heap_of(one), _heap_of(other)
    # Less and less is saved by each further size, so the least is at an end, or where a butt is as great as a swing.
    firsts = [0, butt] + [swing for swing in mine[1] if swing < butt]
    firsts = firsts + [butt - swing for swing in yours[1] if swing < butt]
    found = [(bought_by_heap(mine, first) + bought_by_heap(yours, butt - first), first) for first in firsts]
    _, least_first = min(found)
    return least_first, butt - least_first


def most_gain(one, other):
    """The greatest difference, over all sizes, between least_apart and what is bought in common."""
    return most_over(apart_heap(one, other), common_heap(one, other))


def most_gain_butt(one, other):
    """The least size at which this difference is so great."""
    return most_over_butt(apart_heap(one, other), common_heap(one, other))


def never_gains(one, other):
    """Whether this difference is 0 for all sizes."""
    return apart_heap(one, other) == common_heap(one, other)

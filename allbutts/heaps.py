"""Heaps: what is wanted and the swings, which tell what is bought with a butt of any size."""

from allbutts.pieces import is_number


def is_swings(thing):
    """Whether thing is swings: a tuple of numbers from 1, none greater than the one ahead of it."""
    if not (isinstance(thing, tuple) and all([is_number(swing) and swing >= 1 for swing in thing])):
        return False
    return all([ahead >= swing for ahead, swing in zip(thing, thing[1:])])


def is_heap(thing):
    """Whether thing is a heap: a pair of what is wanted, and swings."""
    if not (isinstance(thing, tuple) and len(thing) == 2):
        return False
    wants, swings = thing
    return is_number(wants) and wants >= 0 and is_swings(swings)


def bought_by_heap(heap, butt):
    """What the heap buys with this butt."""
    wants, swings = heap
    return wants + sum([max(0, swing - butt) for swing in swings])


def butt_for(heap, most):
    """The least butt with which the heap buys at most so much; None if there is none."""
    wants, swings = heap
    if wants > most:
        return None
    butt = 0
    # What is bought is the greatest of all sums of k swings, each less k butts: none of them may be above most.
    for place, total in enumerate(first_sums(heap, len(swings))[1:]):
        butt = max(butt, _parted_up(total - most, place + 1))
    return butt


def _parted_up(number, parts):
    """The least number of which so many come to at least the given one."""
    return -(-number // parts)


def first_sums(heap, many):
    """What is wanted and the k greatest swings together, for each k from 0 to many."""
    wants, swings = heap
    sums = [wants]
    for swing in swings[:many]:
        sums.append(sums[-1] + swing)
    return sums + [sums[-1]] * (many + 1 - len(sums))


def heap_against(one, other):
    """The least k for which the sum of first_sums of one is greater than that of other; None if there is none."""
    many = _most_swings(one, other)
    for k, (mine, yours) in enumerate(zip(first_sums(one, many), first_sums(other, many))):
        if mine > yours:
            return k
    return None


def _most_swings(one, other):
    return max(len(one[1]), len(other[1]))


def heap_within(one, other):
    """Whether one never buys more than other."""
    return heap_against(one, other) is None


def heap_compare(one, other):
    """How what one buys compares with what other buys: alike, less, more or apart."""
    if heap_within(one, other):
        return "alike" if heap_within(other, one) else "less"
    return "more" if heap_within(other, one) else "apart"


def excess(one, other, butt):
    """By how much one buys more than other with this butt."""
    return bought_by_heap(one, butt) - bought_by_heap(other, butt)


def bends(one, other):
    """The butts, ascending, between which the difference of both heaps is even; behind the last one it stays."""
    return sorted(set([0] + list(one[1]) + list(other[1])))


def most_over(one, other):
    """The greatest difference, over all butts, of what one buys less what other buys."""
    return max([excess(one, other, butt) for butt in bends(one, other)])


def most_over_butt(one, other):
    """The least butt with which one buys more than other by the greatest difference."""
    # Between two bends the difference rises or falls evenly, so it comes to its greatest at one of them.
    butts = bends(one, other)
    found = [excess(one, other, butt) for butt in butts]
    return butts[found.index(max(found))]


def spans_over(one, other):
    """All pairs (first, last) of butts between which one buys more; the last one is None where there is no end."""
    points = bends(one, other)
    spans = [_span_between(one, other, low, high) for low, high in zip(points, points[1:])]
    found = [span for span in spans if span is not None]
    if excess(one, other, points[-1]) > 0:
        found.append((points[-1], None))
    return _joined(found)


def _span_between(one, other, low, high):
    """The butts from low to high, two bends side by side, with which one buys more; None if there are none."""
    start, end = excess(one, other, low), excess(one, other, high)
    if start <= 0 and end <= 0:
        return None
    # Nothing is lost here, as the difference rises or falls by a whole number with each step of the butt.
    rise = (end - start) // (high - low)
    first = low if start > 0 else high - (end - 1) // rise
    last = high if end > 0 else low + (start - 1) // -rise
    return first, last


def _joined(spans):
    """The spans, ascending, with those put together that meet at a bend."""
    found = []
    for first, last in spans:
        if len(found) > 0 and found[-1][1] == first:
            found[-1] = (found[-1][0], last)
        else:
            found.append((first, last))
    return found


def heap_sum(one, other):
    """The heap that buys, with each butt, what both buy together."""
    swings = sorted(list(one[1]) + list(other[1]), reverse=True)
    return one[0] + other[0], tuple(swings)


def below_both(one, other):
    """The greatest heap that never buys more than one, nor more than other."""
    many = _most_swings(one, other)
    sums = [min(mine, yours) for mine, yours in zip(first_sums(one, many), first_sums(other, many))]
    swings = [behind - ahead for ahead, behind in zip(sums, sums[1:]) if behind > ahead]
    return sums[0], tuple(swings)


def above_both(one, other):
    """The least heap of which neither one nor other ever buys more."""
    swings = []
    for butt in _bends_above(one, other):
        # A swing is there as often as what is bought falls less beyond it than ahead of it.
        ahead, here, beyond = [_greater(one, other, butt + step) for step in (-1, 0, 1)]
        swings.extend([butt] * (ahead - 2 * here + beyond))
    return max(one[0], other[0]), tuple(swings[::-1])


def _bends_above(one, other):
    """All butts from 1, ascending, at which the greater one of what both buy may fall otherwise than ahead of them."""
    points = bends(one, other)
    for first, last in spans_over(one, other):
        points.extend([first - 1, first])
        if last is not None:
            points.extend([last, last + 1])
    return [point for point in sorted(set(points)) if point >= 1]


def _greater(one, other, butt):
    return max(bought_by_heap(one, butt), bought_by_heap(other, butt))


def bought_table(heap, most):
    """What the heap buys with the butts from 0 to most."""
    return tuple([bought_by_heap(heap, butt) for butt in range(most + 1)])


def is_table(thing):
    """Whether thing is a table of some heap."""
    if not (isinstance(thing, tuple) and len(thing) > 0):
        return False
    if not all([is_number(number) and number >= 0 for number in thing]):
        return False
    falls = _falls(thing) + [0]
    return all([ahead >= fall for ahead, fall in zip(falls, falls[1:])])


def _falls(table):
    """By how much less is bought from each place of a table to the next one."""
    return [here - behind for here, behind in zip(table, table[1:])]


def heap_of(table):
    """The heap with this table of whose swings none is greater than the last butt of it."""
    # So much falls to each butt as swings are at least as great as it.
    falls = _falls(table) + [0]
    swings = []
    for place in reversed(range(len(table) - 1)):
        swings.extend([place + 1] * (falls[place] - falls[place + 1]))
    return table[-1], tuple(swings)

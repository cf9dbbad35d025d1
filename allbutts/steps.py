"""Steps: within a heap something is taken away, or passed on, so that never more is bought."""

from allbutts.errors import NoStep
from allbutts.heaps import heap_within
from allbutts.pieces import is_number

WANT = "want"
GONE = "gone"


def is_step(heap, thing):
    """Whether thing is a step that can be done with this heap."""
    return _is_triple(thing) and _can_be_done(heap[0], _counted(heap[1]), thing)


def _is_triple(thing):
    """Whether thing is a step, maybe one that can not be done."""
    if not (isinstance(thing, tuple) and len(thing) == 3):
        return False
    source, target, many = thing
    if not (is_number(many) and many >= 1):
        return False
    return (source == WANT or is_number(source)) and (target == GONE or is_number(target))


def _counted(swings):
    """For each size how many of the swings have it."""
    counts = {}
    for swing in swings:
        counts[swing] = counts.get(swing, 0) + 1
    return counts


def _can_be_done(wants, counts, step):
    source, target, many = step
    if target not in (GONE, 0) and target not in counts:
        return False
    if source == WANT:
        return many <= wants
    if source not in counts:
        return False
    return (many if target == GONE else target + many) <= source


def taken(heap, row):
    """The heap behind these steps, one behind another; raises NoStep(place)."""
    wants, counts = heap[0], _counted(heap[1])
    for place, (source, target, many) in enumerate(row):
        if not _can_be_done(wants, counts, (source, target, many)):
            raise NoStep(place)
        if source == WANT:
            wants = wants - many
        else:
            _put(counts, source, -1)
            _put(counts, source - many, 1)
        if target != GONE:
            _put(counts, target, -1)
            _put(counts, target + many, 1)
    return wants, _swings_from(counts)


def _put(counts, size, more):
    """Puts in, or takes out, a swing of this size; what is 0 is none."""
    if size == 0:
        return
    counts[size] = counts.get(size, 0) + more
    if counts[size] == 0:
        del counts[size]


def _swings_from(counts):
    swings = []
    for size in sorted(counts, reverse=True):
        swings.extend([size] * counts[size])
    return tuple(swings)


def steps(one, other):
    """Steps that lead from other to one; None if there are none."""
    if not heap_within(one, other):
        return None
    many = max(len(one[1]), len(other[1]))
    row, goal = _row_of(other, many), _row_of(one, many)
    lost = _lose(row, sum(row) - sum(goal))
    return tuple(lost + _pass_on(row, goal))


def _row_of(heap, many):
    """What is wanted, and behind it so many swings, with 0 for those that are not there."""
    wants, swings = heap
    return [wants] + list(swings) + [0] * (many - len(swings))


def _source(row, place):
    return WANT if place == 0 else row[place]


def _lose(row, number):
    """Takes so much away from the end of the row; tells the steps by which it is gone."""
    found = []
    rest = number
    for place in reversed(range(len(row))):
        many = min(row[place], rest)
        if many > 0:
            found.append((_source(row, place), GONE, many))
            row[place] = row[place] - many
            rest = rest - many
    return found


def _pass_on(row, goal):
    """Makes a row into another one with the same sum; tells the steps by which it is done.

    From each place on to the beginning, the row comes to at least as much as the goal. So the places that lack
    something, the first one first, get it from the nearest ones ahead that have too much: the giver is not less than
    its goal then, the taker not more than its own, and the row stays in order.
    """
    found = []
    for place in range(1, len(row)):
        giver = place - 1
        while row[place] < goal[place]:
            many = min(row[giver] - goal[giver], goal[place] - row[place])
            if many > 0:
                found.append((_source(row, giver), row[place], many))
                row[giver] = row[giver] - many
                row[place] = row[place] + many
            giver = giver - 1
    return found


def is_steps(one, other, thing):
    """Whether thing is steps that lead from other to one."""
    if not (isinstance(thing, tuple) and all([_is_triple(step) for step in thing])):
        return False
    try:
        behind = taken(other, thing)
    except NoStep:
        return False
    return behind == (one[0], tuple(one[1]))


def gone_by(row):
    """How much is gone by these steps."""
    return sum([many for _, target, many in row if target == GONE])


def lowers(step):
    """The least and the greatest butt by which less is bought behind this step; the greatest is None without end."""
    source, target, many = step
    if target == GONE:
        return (0, None) if source == WANT else (0, source - 1)
    if source == WANT:
        return target + 1, None
    # A swing that gives all that it is greater only changes places with the other one.
    if target + many == source:
        return None
    return target + 1, source - 1

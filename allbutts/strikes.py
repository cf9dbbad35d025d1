"""Strikes: runs that are struck out of a ring, one behind another, until at most two are left."""

from allbutts.errors import NoPlace, NoStrike
from allbutts.pieces import is_number
from allbutts.years import is_runs, ring_of


def is_ring(thing):
    """Whether thing is a ring: one run, or an even number of runs whose signs alternate, all the way round."""
    if not is_runs(thing):
        return False
    if len(thing) == 1:
        return True
    return all([(run > 0) != (thing[place - 1] > 0) for place, run in enumerate(thing)])


def can_strike(ring, place):
    """Whether the run at this place can be struck; raises NoPlace(number)."""
    if place < 0 or place >= len(ring):
        raise NoPlace(place)
    if len(ring) < 4:
        return False
    behind = ring[(place + 1) % len(ring)]
    return abs(ring[place]) <= min(abs(ring[place - 1]), abs(behind))


def struck(ring, place):
    """The ring behind this strike, begun with the new run; raises NoPlace(number), NoStrike(place)."""
    if not can_strike(ring, place):
        raise NoStrike(place)
    turned = tuple(ring[place:]) + tuple(ring[:place])
    return (turned[-1] + turned[0] + turned[1],) + turned[2:-1]


def swings(year):
    """The swings of the year, the greatest first."""
    return tuple(sorted(swings_by(year, first_strikes(year)), reverse=True))


def first_strikes(year):
    """The least strikes of the year by comparison."""
    left = ring_of(year.runs)
    found = []
    # Every ring of four or more can be struck somewhere, so the least place never leads to an end too soon.
    while len(left) > 2:
        place = _places_to_strike(left)[0]
        found.append(place)
        left = struck(left, place)
    return tuple(found)


def _places_to_strike(ring):
    return [place for place in range(len(ring)) if can_strike(ring, place)]


def strikes(year):
    """Strikes of the year: the least ones."""
    return first_strikes(year)


def left_by(year, strikes):
    """The ring that these strikes leave; raises NoPlace(number), NoStrike(place)."""
    left = ring_of(year.runs)
    for place in strikes:
        left = struck(left, place)
    return left


def swings_by(year, strikes):
    """The sizes that are struck, and the lesser one of the last two; raises NoPlace(number), NoStrike(place)."""
    left = ring_of(year.runs)
    sizes = []
    for place in strikes:
        behind = struck(left, place)
        sizes.append(abs(left[place]))
        left = behind
    if len(left) == 2:
        sizes.append(min(abs(left[0]), abs(left[1])))
    return tuple(sizes)


def is_strikes(year, thing):
    """Whether thing is strikes of the year."""
    if not (isinstance(thing, tuple) and len(thing) == _strikes_of(year)):
        return False
    if not all([is_number(place) for place in thing]):
        return False
    try:
        left_by(year, thing)
    except (NoPlace, NoStrike):
        return False
    return True


def _strikes_of(year):
    """How many strikes leave at most two runs: each one takes two away."""
    return (len(ring_of(year.runs)) - 1) // 2


def how_many_strikes(year):
    """How many strikes of the year there are."""
    ways = {ring_of(year.runs): 1}
    for _ in range(_strikes_of(year)):
        ways = _ways_on(ways)
    return sum(ways.values())


def _ways_on(ways):
    """For each ring one strike further on, in how many ways it comes about."""
    found = {}
    for left, many in ways.items():
        for place in _places_to_strike(left):
            behind = struck(left, place)
            found[behind] = found.get(behind, 0) + many
    return found

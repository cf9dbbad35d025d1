"""Years that are made: with given swings, and with as much as they are to want and to spare."""

from allbutts.years import Year


def fewest_runs(wants, spare, swings):
    """The least number of runs of a year that wants and spares so much and has these swings; None without one."""
    if wants > 0 and spare > 0:
        return None
    if len(swings) > 0:
        return 2 * len(swings)
    return 1 if wants + spare > 0 else None


def made(wants, spare, swings):
    """Such a year with so few runs; None if there is none."""
    if fewest_runs(wants, spare, swings) is None:
        return None
    if len(swings) == 0:
        return Year((spare - wants,))
    runs = []
    for swing in swings[1:]:
        runs.extend([swing, -swing])
    # From the last one on, each lesser swing is struck ahead of the greatest one, which stays as it is.
    return Year(runs + _greatest_two(wants, spare, swings))


def _greatest_two(wants, spare, swings):
    """The ring that is left when all swings but the greatest one are struck, begun with its rain."""
    return [swings[0] + spare, -swings[0] - wants]


def is_made(wants, spare, swings, year):
    """Whether the year is such a one with so few runs."""
    if (year.wants, year.spare, year.swings) != (wants, spare, tuple(swings)):
        return False
    return len(year) == fewest_runs(wants, spare, swings)


def how_many_made(wants, spare, swings):
    """How many such years with so few runs there are; each of the swings is less than the one ahead of it."""
    fewest = fewest_runs(wants, spare, swings)
    if fewest is None:
        return 0
    ways = fewest
    for place in range(1, len(swings)):
        greater = [ahead - swings[place] for ahead in swings[:place]]
        ways = ways * (wants + spare + 2 * sum(greater))
    return ways


def all_made(wants, spare, swings):
    """The runs of all such years with so few runs, ascending."""
    if fewest_runs(wants, spare, swings) is None:
        return []
    if len(swings) == 0:
        return [made(wants, spare, swings).runs]
    rings = [tuple(_greatest_two(wants, spare, swings))]
    for swing in swings[1:]:
        rings = _all_parted(rings, swing)
    return _all_turned(rings)


def _all_turned(rings):
    """The rings begun at each of their runs, ascending."""
    return sorted({ring[place:] + ring[:place] for ring in rings for place in range(len(ring))})


def _all_parted(rings, swing):
    """All rings of which a strike of this swing, not greater than those struck later, leaves one of the rings."""
    found = []
    for ring in _all_turned(rings):
        run = ring[0]
        sign = 1 if run > 0 else -1
        for size in range(swing, abs(run) + 1):
            found.append((sign * size, -sign * swing, run + sign * (swing - size)) + ring[1:])
    return found

"""Years: rows of rain and watering that come again and again."""

from allbutts.errors import BadRun, BadText, NoPlace
from allbutts.pieces import is_number, runs_in
from allbutts.texts import runs_text

MOST_RUNS = 40


class Year:
    """A row of runs; objects of this class do not change."""

    def __init__(self, runs):
        kept = tuple(runs)
        for place, run in enumerate(kept):
            if run == 0:
                raise BadRun(place)
        self._runs = kept
        # Found once and for all, as comparisons of years read them again and again.
        self._swings = swings_of(kept)

    @staticmethod
    def of(text):
        """The Year with this text; raises BadText(piece)."""
        pieces = text.split(" ")
        runs = runs_in(pieces[:MOST_RUNS])
        if len(pieces) > MOST_RUNS:
            raise BadText(MOST_RUNS)
        return Year(runs)

    @property
    def runs(self):
        return self._runs

    @property
    def rain(self):
        """What rains in all."""
        return sum([run for run in self._runs if run > 0])

    @property
    def draws(self):
        """What is watered in all."""
        return sum([-run for run in self._runs if run < 0])

    @property
    def wants(self):
        """What its watering takes more than its rain brings; 0 if it does not."""
        return max(0, self.draws - self.rain)

    @property
    def spare(self):
        """What its rain brings more than its watering takes; 0 if it does not."""
        return max(0, self.rain - self.draws)

    @property
    def swings(self):
        """The swings, the greatest first."""
        return self._swings

    @property
    def heap(self):
        """The pair of what it wants and its swings."""
        return self.wants, self._swings

    @property
    def text(self):
        return runs_text(self._runs)

    def __len__(self):
        return len(self._runs)

    def __eq__(self, other):
        return isinstance(other, Year) and self._runs == other._runs

    def __add__(self, other):
        if not isinstance(other, Year):
            return NotImplemented
        return Year(self._runs + other._runs)


def is_run(thing):
    """Whether thing is a run: a number that is not 0."""
    return is_number(thing) and thing != 0


def is_runs(thing):
    """Whether thing is a tuple of at least one run."""
    return isinstance(thing, tuple) and len(thing) > 0 and all([is_run(run) for run in thing])


def swings_of(runs):
    """The swings of the Year with these runs, the greatest first."""
    sizes = [abs(run) for run in ring_of(runs)]
    found = []
    while len(sizes) > 2:
        # The least of all is greater than no neighbour, so it can always be struck.
        place = sizes.index(min(sizes))
        found.append(sizes[place])
        sizes = _sizes_without(sizes, place)
    if len(sizes) == 2:
        found.append(min(sizes))
    return tuple(sorted(found, reverse=True))


def _sizes_without(sizes, place):
    """The sizes round the ring when the run at this place is struck, begun with the new run."""
    turned = sizes[place:] + sizes[:place]
    return [turned[-1] - turned[0] + turned[1]] + turned[2:-1]


def ring(year):
    """The ring of the Year: neighbours of one sign put together, so that signs alternate."""
    return ring_of(year.runs)


def ring_of(runs):
    """The ring of a row of runs, as ring tells it of a Year."""
    begin = _first_turn(runs)
    if begin is None:
        return (sum(runs),)
    joined = []
    for run in runs[begin:] + runs[:begin]:
        if len(joined) > 0 and (joined[-1] > 0) == (run > 0):
            joined[-1] = joined[-1] + run
        else:
            joined.append(run)
    return tuple(joined)


def _first_turn(runs):
    """The first place with another sign than the one ahead of it, round the ring; None if there is none."""
    for place, run in enumerate(runs):
        if (run > 0) != (runs[place - 1] > 0):
            return place
    return None


def begun_at(year, place):
    """The Year with the same runs, begun with the one at this place; raises NoPlace(number)."""
    if place < 0 or place >= len(year):
        raise NoPlace(place)
    return Year(year.runs[place:] + year.runs[:place])


def backwards(year):
    """The Year with its runs from the last to the first."""
    return Year(year.runs[::-1])


def opposite(year):
    """The Year with the sign of each run changed."""
    return Year([-run for run in year.runs])


def repeated(year, number):
    """So many of the Year one behind the other, as one Year."""
    return Year(year.runs * number)


def scaled(year, number):
    """The Year with each run so many times."""
    return Year([run * number for run in year.runs])

"""Years that change: runs come, go, and change their places."""

from allbutts.errors import NoPlace, NothingDone
from allbutts.heaps import heap_within
from allbutts.lead import most_more
from allbutts.longrun import bought
from allbutts.years import Year

ONE = "one"


def put_in(year, place, run):
    """The Year with this run put in at this place; raises NoPlace(number), BadRun(place)."""
    if place < 0 or place > len(year):
        raise NoPlace(place)
    # A run that is 0 is the only such one, so the Year raises BadRun with its place.
    return Year(year.runs[:place] + (run,) + year.runs[place:])


def left_out(year, place):
    """The Year without the run at this place; raises NoPlace(number)."""
    check_place(year, place)
    return Year(year.runs[:place] + year.runs[place + 1:])


def check_place(year, place):
    """Raises NoPlace(number) if the year has no run at this place."""
    if place < 0 or place >= len(year):
        raise NoPlace(place)


def passed(year, place):
    """The Year with the run at this place and the next one round the ring exchanged; raises NoPlace(number)."""
    check_place(year, place)
    runs = list(year.runs)
    behind = (place + 1) % len(runs)
    runs[place], runs[behind] = runs[behind], runs[place]
    return Year(runs)


def parted(year, place, first):
    """The Year with two runs, the first one of this size, in the place of one; raises NoPlace(number)."""
    check_place(year, place)
    run = year.runs[place]
    begun = first if run > 0 else -first
    return Year(year.runs[:place] + (begun, run - begun) + year.runs[place + 1:])


def best_place(year, run, butt):
    """The least place at which this run, put in, lets least be bought with this butt."""
    found = [(bought(other, butt), place) for place, other in enumerate(_all_with(year, run))]
    _, place = min(found)
    return place


def _all_with(year, run):
    """The Years with this run put in, for each place."""
    return [put_in(year, place, run) for place in range(len(year) + 1)]


def best_for_all(year, run):
    """The least place at which this run never lets more be bought than at any other; None if there is none."""
    heaps = [other.heap for other in _all_with(year, run)]
    for place, heap in enumerate(heaps):
        if all([heap_within(heap, other) for other in heaps]):
            return place
    return None


def worst_for_all(year, run):
    """The least place at which this run never lets less be bought than at any other; None if there is none."""
    heaps = [other.heap for other in _all_with(year, run)]
    for place, heap in enumerate(heaps):
        if all([heap_within(other, heap) for other in heaps]):
            return place
    return None


def passes(year, butt):
    """The places, ascending, for which passed buys less with this butt than the Year."""
    now = bought(year, butt)
    return [place for place in range(len(year)) if bought(passed(year, place), butt) < now]


class Watch:
    """Two Years while runs come, go, and change their places, and by how much the one leads."""

    def __init__(self, one, other):
        self._one = one
        self._other = other
        self._leads = (most_more(one, other),)
        # For each deed what one, other and leads were ahead of it.
        self._past = []

    @property
    def one(self):
        return self._one

    @property
    def other(self):
        return self._other

    @property
    def leads(self):
        """By how much one buys more at the most: at the beginning, and behind each deed."""
        return self._leads

    def put(self, side, place, run):
        """Puts a run into the Year of this side, and tells the lead; raises NoPlace(number), BadRun(place)."""
        return self._become(side, put_in(self._year(side), place, run))

    def drop(self, side, place):
        """Leaves a run of the Year of this side out, and tells the lead; raises NoPlace(number)."""
        return self._become(side, left_out(self._year(side), place))

    def exchange(self, side, place):
        """Exchanges two runs of the Year of this side, and tells the lead; raises NoPlace(number)."""
        return self._become(side, passed(self._year(side), place))

    def _year(self, side):
        return self._one if side == ONE else self._other

    def _become(self, side, year):
        """Gives this side the Year, as a deed; tells the lead."""
        self._past.append((self._one, self._other, self._leads))
        if side == ONE:
            self._one = year
        else:
            self._other = year
        lead = most_more(self._one, self._other)
        self._leads = self._leads + (lead,)
        return lead

    def back(self):
        """Takes the last deed back; raises NothingDone."""
        if len(self._past) == 0:
            raise NothingDone()
        self._one, self._other, self._leads = self._past.pop()

    def twin(self):
        """A Watch in the same state, deeds included."""
        mate = Watch(self._one, self._other)
        mate._leads = self._leads
        mate._past = list(self._past)
        return mate

    def __len__(self):
        return len(self._past)

    def __eq__(self, other):
        return isinstance(other, Watch) and self._one == other._one and self._other == other._other

"""A board of Years, each with a NAME, that come, go and change, and of which each deed can be undone."""

from allbutts.changes import check_place, left_out, put_in
from allbutts.errors import Known, NoPlace, NothingDone, NoYear
from allbutts.heaps import heap_within
from allbutts.longrun import bought, least_butt, spilled
from allbutts.years import Year


class Board:
    """Years with their NAMEs; at first there are none."""

    def __init__(self):
        # A deed puts another dict in the place of this one, so those ahead of it stay as they were.
        self._years = {}
        self._past = []

    @property
    def names(self):
        return tuple(sorted(self._years))

    @property
    def deeds(self):
        """How many deeds can be undone now."""
        return len(self._past)

    def __len__(self):
        return len(self._years)

    def __contains__(self, name):
        return name in self.names

    def __getitem__(self, name):
        """The Year with this NAME; raises NoYear(name)."""
        if name not in self.names:
            raise NoYear(name)
        return self._years[name]

    def __iter__(self):
        raise TypeError("a Board is not iterated over")

    def __eq__(self, other):
        return isinstance(other, Board) and self._years == other._years

    def put(self, name, year):
        """One Year more; raises Known(name)."""
        if name in self._years:
            raise Known(name)
        self._become(self._with(name, year))

    def drop(self, name):
        """The Year goes; raises NoYear(name)."""
        self._become(self._without(name))

    def rename(self, name, new):
        """The Year has another NAME from now on; raises NoYear(name), Known(name)."""
        years = self._without(name)
        if new in self._years:
            raise Known(new)
        years[new] = self._years[name]
        self._become(years)

    def add(self, name, place, run):
        """The run comes in at this place; raises NoYear(name), NoPlace(number)."""
        self._become(self._with(name, put_in(self[name], place, run)))

    def remove(self, name, place):
        """The run at this place goes; raises NoYear(name), NoPlace(number)."""
        year = self[name]
        if len(year) == 1:
            raise NoPlace(place)
        self._become(self._with(name, left_out(year, place)))

    def move(self, name, place, to):
        """The run at this place goes to another one; raises NoYear(name), NoPlace(number)."""
        year = self[name]
        check_place(year, place)
        check_place(year, to)
        runs = list(year.runs)
        run = runs.pop(place)
        runs.insert(to, run)
        self._become(self._with(name, Year(runs)))

    def _with(self, name, year):
        """The Years with this one under the NAME."""
        years = dict(self._years)
        years[name] = year
        return years

    def _without(self, name):
        """The Years without the one with this NAME; raises NoYear(name)."""
        if name not in self._years:
            raise NoYear(name)
        return {other: year for other, year in self._years.items() if other != name}

    def _become(self, years):
        """Puts other Years in the place of those that are there, as a deed."""
        self._past.append(self._years)
        self._years = years

    def undo(self):
        """The last deed that is not undone yet is undone; raises NothingDone."""
        if len(self._past) == 0:
            raise NothingDone()
        self._years = self._past.pop()

    def twin(self):
        """An equal Board without deeds to undo."""
        mate = Board()
        mate._years = {name: Year(year.runs) for name, year in self._years.items()}
        return mate

    def bought_by(self, butt):
        """The pairs of the NAMEs, ascending, and of what is bought in the long run."""
        return tuple([(name, bought(self._years[name], butt)) for name in self.names])

    def spilled_by(self, butt):
        """The pairs of the NAMEs, ascending, and of what is spilled in the long run."""
        return tuple([(name, spilled(self._years[name], butt)) for name in self.names])

    def least_bought(self, butt):
        """The NAMEs of the Years that buy the least of all."""
        rows = self.bought_by(butt)
        least = min([number for _, number in rows], default=0)
        return tuple([name for name, number in rows if number == least])

    def least_butts(self, most):
        """The pairs of the NAMEs, ascending, and of the least butt with which at most so much is bought, or None."""
        return tuple([(name, least_butt(self._years[name], most)) for name in self.names])

    def never_more(self, name, to):
        """Whether the one Year never buys more than the other; raises NoYear(name)."""
        return heap_within(self[name].heap, self[to].heap)

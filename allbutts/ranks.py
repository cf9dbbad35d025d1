"""Several Years at once: which of them stand below which, and by how much they buy more."""

from allbutts.errors import Known, NoYear
from allbutts.heaps import above_both, below_both, heap_compare, heap_within, most_over


class Table:
    """Years with a NAME each; objects of this class do not change."""

    def __init__(self, rows):
        years = {}
        for name, year in rows:
            if name in years:
                raise Known(name)
            years[name] = year
        self._years = years
        self._names = tuple(sorted(years))
        # Found once and for all, as most methods ask for it again and again.
        self._below = {name: _lower_names(years, name) for name in years}

    @property
    def names(self):
        return self._names

    def __len__(self):
        return len(self._years)

    def __contains__(self, name):
        return name in self._names

    def __getitem__(self, name):
        """The Year with this NAME; raises NoYear(name)."""
        self._check(name)
        return self._years[name]

    def __iter__(self):
        raise TypeError("a Table is not iterated over")

    def __eq__(self, other):
        return isinstance(other, Table) and self._years == other._years

    def _check(self, name):
        if name not in self._names:
            raise NoYear(name)

    def excess_of(self, name, other):
        """The greatest number by which the one Year buys more than the other; raises NoYear(name)."""
        return max(0, most_over(self[name].heap, self[other].heap))

    def is_never_more(self, name, other):
        """Whether the one Year never buys more than the other; raises NoYear(name)."""
        return heap_within(self[name].heap, self[other].heap)

    def all_excesses(self):
        """The triples (name, other, excess), ascending, for all excesses above 0."""
        found = [(name, other, self.excess_of(name, other)) for name in self._names for other in self._names]
        return tuple([row for row in found if row[2] > 0])

    def on_way(self, name, other):
        """The NAMEs by way of which the excess is no greater than straight; raises NoYear(name)."""
        straight = self.excess_of(name, other)
        found = [(mid, self.excess_of(name, mid) + self.excess_of(mid, other)) for mid in self._names]
        return tuple([mid for mid, excess in found if excess == straight])

    def below(self, name):
        """The NAMEs that stand below this one; raises NoYear(name)."""
        self._check(name)
        return self._below[name]

    def above(self, name):
        """The NAMEs that stand above this one; raises NoYear(name)."""
        self._check(name)
        return tuple([other for other in self._names if name in self._below[other]])

    def next_below(self, name):
        """The NAMEs below this one with no further one between; raises NoYear(name)."""
        lower = self.below(name)
        return tuple([other for other in lower if not _any_shared(self.above(other), lower)])

    def next_above(self, name):
        """The NAMEs above this one with no further one between; raises NoYear(name)."""
        upper = self.above(name)
        return tuple([other for other in upper if not _any_shared(self._below[other], upper)])

    def ties(self):
        """The sets of at least two NAMEs that are tied with one another, ascending."""
        groups = {}
        for name in self._names:
            groups.setdefault(self._years[name].heap, []).append(name)
        found = [tuple(group) for group in groups.values() if len(group) > 1]
        return tuple(sorted(found))

    def chain(self):
        """The longest row of NAMEs each of which stands below the next one: the least such row."""
        lengths = _longest_up(self._ranked(), self._below)
        found = ()
        for length in range(max([0] + list(lengths.values())), 0, -1):
            fitting = [name for name in self._names if lengths[name] == length]
            # The least one that goes on from the last one; the length ahead makes sure that there is one.
            if len(found) > 0:
                fitting = [name for name in fitting if found[-1] in self._below[name]]
            found = found + (fitting[0],)
        return found

    def _ranked(self):
        """The NAMEs, each behind all those that stand below it."""
        return [name for layer in self.layers() for name in layer]

    def apart(self):
        """The largest set of NAMEs no two of which are tied or below one another: the least such set."""
        groups = [()]
        for name in self._names:
            free = self._apart_from(name)
            groups = groups + [group + (name,) for group in groups if all([other in free for other in group])]
        _, least = min([(-len(group), group) for group in groups])
        return least

    def _apart_from(self, name):
        """The NAMEs that are not tied with this one, and stand neither below nor above it."""
        heap = self._years[name].heap
        return [other for other in self._names if heap_compare(self._years[other].heap, heap) == "apart"]

    def layers(self):
        """The sets of NAMEs below which only NAMEs of earlier sets stand, one behind another."""
        found = []
        left = self._names
        while len(left) > 0:
            layer = tuple([name for name in left if not _any_shared(self._below[name], left)])
            found.append(layer)
            left = tuple([name for name in left if name not in layer])
        return found

    def bound_above(self, names):
        """The least heap of which none of these Years ever buys more; raises NoYear(name)."""
        bound = (0, ())
        for heap in self._heaps(names):
            bound = above_both(bound, heap)
        return bound

    def bound_below(self, names):
        """The greatest heap that never buys more than any of these Years; raises NoYear(name)."""
        heaps = self._heaps(names)
        bound = heaps[0]
        for heap in heaps:
            bound = below_both(bound, heap)
        return bound

    def _heaps(self, names):
        return [self[name].heap for name in names]

    def within(self, heap):
        """The NAMEs whose Years never buy more than this heap."""
        return tuple([name for name in self._names if heap_within(self._years[name].heap, heap)])


def _lower_names(years, name):
    """The NAMEs, ascending, that stand below this one."""
    heap = years[name].heap
    found = [other for other in sorted(years) if years[other].heap != heap]
    return tuple([other for other in found if heap_within(years[other].heap, heap)])


def _any_shared(names, others):
    return any([name in others for name in names])


def _longest_up(ranked, below):
    """For each NAME how many there are in the longest row from it upwards, itself counted."""
    lengths = {}
    for name in ranked[::-1]:
        upper = [lengths[other] for other in ranked if name in below[other]]
        lengths[name] = 1 + max([0] + upper)
    return lengths

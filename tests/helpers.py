"""What several test files need."""

import copy
import functools
import itertools

GREAT = 10 ** 30

# What is no number, however much it looks like one, and what is nested as deep as a thing may be.
NO_NUMBERS = (True, False, None, "", "0", "1", "want", (), (1,), [], [1], [[1]])
DEEP = functools.reduce(lambda thing, _: (thing,), range(12), 1)


class ErrorCase:
    """Mixed into test cases: looks at an error's class and at what it keeps."""

    def assert_raised(self, kind, kept, call, *values, **named):
        with self.assertRaises(kind) as caught:
            call(*values, **named)
        self.assertIs(type(caught.exception), kind)
        self.assertEqual(vars(caught.exception), kept)


class CallCase:
    """Mixed into test cases: what promise 2 says of each call."""

    def assert_told(self, told, call, **named):
        """Tells just this, by position and by names, with tuples and with lists, again and again, changing nothing."""
        for form in (lists_to_tuples, tuples_to_lists):
            handed = {name: form(value) for name, value in named.items()}
            kept = copy.deepcopy(handed)
            first, second = call(*handed.values()), call(**handed)
            self.assertEqual(repr(first), repr(told), (call.__name__, handed))
            self.assertEqual(repr(second), repr(told), (call.__name__, handed))
            self.assertEqual(handed, kept, call.__name__)
            if isinstance(first, list):
                self.assertIsNot(first, second)

    def assert_yes(self, call, before, things):
        """Tells True of each of these things, behind the arguments before."""
        for thing in things:
            self.assertIs(call(*before, thing), True, (before, thing))
            self.assertIs(call(*before, thing=thing), True, (before, thing))

    def assert_no(self, call, before, things):
        """Tells False of each of these things, behind the arguments before."""
        for thing in things:
            self.assertIs(call(*before, thing), False, (before, thing))
            self.assertIs(call(*before, thing=thing), False, (before, thing))


def tuples_to_lists(value):
    """The value with a list for each tuple, at any depth."""
    if isinstance(value, (tuple, list)):
        return [tuples_to_lists(item) for item in value]
    return value


def lists_to_tuples(value):
    """The value with a tuple for each list, at any depth."""
    if isinstance(value, (tuple, list)):
        return tuple(lists_to_tuples(item) for item in value)
    return value


def rows_to(length, size):
    """All rows of at most so many runs, and at least one, of sizes to this one."""
    runs = [run for run in range(-size, size + 1) if run != 0]
    for many in range(1, length + 1):
        yield from itertools.product(runs, repeat=many)


def swings_to(length, size):
    """All swings of at most so many numbers to this one."""
    for many in range(length + 1):
        yield from itertools.combinations_with_replacement(range(size, 0, -1), many)


def heaps_to(wants, length, size):
    """All heaps with wants to so much and such swings."""
    return list(itertools.product(range(wants + 1), swings_to(length, size)))


def walk_straight(runs, butt, first):
    """The level behind these runs, what is bought and what is spilled, straight from the document."""
    level, bought, spilled = first, 0, 0
    for run in runs:
        if run > 0:
            spilled += max(0, level + run - butt)
            level = min(butt, level + run)
        else:
            bought += max(0, -run - level)
            level = max(0, level + run)
    return level, bought, spilled


def bought_straight(heap, butt):
    """What a heap buys with this butt, straight from the document."""
    wants, swings = heap
    return wants + sum(swing - butt for swing in swings if swing > butt)


def year_with(heap):
    """The runs of a year with this heap; it has swings, or it wants something."""
    wants, swings = heap
    if not swings:
        return (-wants,)
    runs = [run for swing in swings[1:] for run in (swing, -swing)]
    return (*runs, swings[0], -swings[0] - wants)

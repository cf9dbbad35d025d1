"""Surveys: a hidden heap is found by asking how much is bought with one butt after another."""

from allbutts.errors import AllKnown, BadAnswer, NothingDone
from allbutts.heaps import bought_by_heap


class Survey:
    """What was answered of a hidden heap, and what is asked next."""

    def __init__(self, most, high):
        self._most = most
        self._high = high
        self._answers = ()
        self._look()

    def _look(self):
        """Finds what is asked next, or the one heap that fits."""
        self._ask = _next_ask(self._most, self._high, self._answers)
        self._heap = _only_heap(self._most, self._answers) if self._ask is None else None

    @property
    def most(self):
        return self._most

    @property
    def high(self):
        return self._high

    @property
    def ask(self):
        """The butt that is asked next; None if just one heap fits."""
        return self._ask

    @property
    def answers(self):
        """The pairs (butt, what is bought) that were told, in order."""
        return self._answers

    @property
    def heap(self):
        """The heap that fits, if there is just one."""
        return self._heap

    def tell(self, number):
        """Takes the number as the answer to ask; raises AllKnown, BadAnswer(number)."""
        if self._ask is None:
            raise AllKnown()
        least, greatest = self.numbers(self._ask)
        if number < least or (greatest is not None and number > greatest):
            raise BadAnswer(number)
        self._answers = self._answers + ((self._ask, number),)
        self._look()

    def back(self):
        """Takes the last answer back; raises NothingDone."""
        if len(self._answers) == 0:
            raise NothingDone()
        self._answers = self._answers[:-1]
        self._look()

    def fits(self, heap):
        """Whether this heap fits."""
        _, swings = heap
        if len(swings) > self._most or max([0] + list(swings)) > self._high:
            return False
        return all([bought_by_heap(heap, butt) == number for butt, number in self._answers])

    def numbers(self, butt):
        """The least and the greatest that is bought with this butt by a heap that fits; None for no greatest."""
        if len(self._answers) == 0:
            return 0, None
        _, wants = self._answers[0]
        if butt >= self._high:
            return wants, wants
        if len(self._answers) == 1:
            return wants, wants + self._most * (self._high - butt)
        blocks = _blocks(self._most, self._answers)
        return _range_in([block for block in blocks if block[0] <= butt][-1], butt)

    def __len__(self):
        return len(self._answers)


def surveyed(most, high, asker):
    """The heap that a Survey finds if asker tells what is bought with each butt; raises BadAnswer(number)."""
    survey = Survey(most, high)
    while survey.ask is not None:
        survey.tell(asker(survey.ask))
    return survey.heap


def _next_ask(most, high, answers):
    """The butt that is asked behind these answers; None if just one heap fits."""
    if len(answers) == 0:
        return high
    if len(answers) == 1:
        return 0 if most > 0 else None
    span, butt = max([_widest(block) for block in _blocks(most, answers)])
    return butt if span > 0 else None


def _only_heap(most, answers):
    """The heap that fits, where there is just one."""
    _, wants = answers[0]
    swings = []
    if len(answers) > 1:
        # Where nothing is open the fall is as even as can be, and a swing ends wherever it becomes less.
        for low, wide, _, fall, _, _ in _blocks(most, answers)[::-1]:
            even, rest = divmod(fall, wide)
            swings.extend([low + wide] * (even - len(swings)))
            if rest > 0:
                swings.append(low + rest)
    return wants, tuple(swings)


def _blocks(most, answers):
    """The blocks (low, wide, number, fall, least, greatest) between neighbours of the butts that were asked.

    With the butt low so much as number is bought; over so many butts as wide it falls by fall in all. With each butt
    it falls by how many swings are greater, which never rises from one butt to the next. So a block bounds the one
    behind it by its last fall, the one ahead of it by its first fall; it leaves them the most room if it falls as
    evenly as can be, and all blocks can do so at once. Then each block alone may as well fall otherwise: with each
    butt by no less than least, by no more than greatest.
    """
    points = sorted(answers)
    falls = [ahead - behind for (_, ahead), (_, behind) in zip(points, points[1:])]
    wides = [behind - ahead for (ahead, _), (behind, _) in zip(points, points[1:])]
    greatest = [most] + [fall // wide for fall, wide in zip(falls, wides)]
    least = [-(-fall // wide) for fall, wide in zip(falls, wides)] + [0]
    found = []
    for place, (fall, wide) in enumerate(zip(falls, wides)):
        low, number = points[place]
        found.append((low, wide, number, fall, least[place + 1], greatest[place]))
    return found


def _range_in(block, butt):
    """The least and the greatest that may be bought with a butt in this block."""
    low, wide, number, fall, least, greatest = block
    steps = butt - low
    even, rest = divmod(fall, wide)
    steepest = min(greatest * steps, fall - least * (wide - steps))
    evenest = even * steps + min(rest, steps)
    return number - steepest, number - evenest


def _widest(block):
    """By how much, and at which butt of this block, what may be bought differs the most."""
    low, wide, _, fall, least, greatest = block
    if greatest == least:
        return 0, low
    # The steepest ways down from either side meet here, and it differs less and less to both sides.
    meet = low + (fall - least * wide) // (greatest - least)
    return max([_span_at(block, meet), _span_at(block, min(meet + 1, low + wide))])


def _span_at(block, butt):
    least, greatest = _range_in(block, butt)
    return greatest - least, butt

"""Parts: what a row of runs does with a butt, told for all levels at once by five numbers."""

from allbutts.pieces import is_number


def part_of(runs, butt):
    """The part of a row of runs."""
    part = (0, butt, 0, 0, 0)
    for run in runs:
        part = then(part, _part_of_run(run, butt))
    return part


def _part_of_run(run, butt):
    size = abs(run)
    fitting, beyond = min(size, butt), max(0, size - butt)
    if run > 0:
        return (0, butt - fitting, fitting, 0, beyond)
    return (fitting, butt, 0, beyond, 0)


def is_part(butt, thing):
    """Whether thing is a part for the butt."""
    if not (isinstance(thing, tuple) and len(thing) == 5):
        return False
    if not all([is_number(number) and number >= 0 for number in thing]):
        return False
    need, room, low, more, over = thing
    if need > room or room > butt or low + room - need > butt:
        return False
    return need == room or (more == 0 and over == 0)


def runs_for(butt, part):
    """A row of at most four runs with this part."""
    need, room, low, more, over = part
    span = room - need
    if span > 0:
        # Filled up to the butt, what is above room is spilled; then all levels sink together.
        row = (-need, butt - span, low + span - butt)
    else:
        # However full the butt was, it is full behind the rain, and empty behind the second watering.
        row = (-need, butt + over, -butt - more, low)
    return tuple([run for run in row if run != 0])


def through(part, level):
    """The triple of the level behind it, what is bought and what is spilled."""
    need, room, low, more, over = part
    kept = min(room, max(need, level))
    return low + kept - need, more + max(0, need - level), over + max(0, level - room)


def then(one, other):
    """The part of a row with the one part, and behind it a row with the other one."""
    need, room, low, more, over = one
    next_need, next_room, next_low, next_more, next_over = other
    high = low + room - need
    more = more + next_more
    over = over + next_over
    if high < next_need:
        # Whatever the first level, all the water goes, and more is bought.
        return room, room, next_low, more + next_need - high, over
    if low > next_room:
        return need, need, next_low + next_room - next_need, more, over + low - next_room
    least, most = max(low, next_need), min(high, next_room)
    return need + least - low, need + most - low, next_low + least - next_need, more, over


def times(part, number):
    """The part of so many rows with this part, one behind another."""
    whole = tuple(part)
    # Each further binary digit doubles the number of rows, and a 1 puts one more behind them.
    for digit in f"{number:b}"[1:]:
        whole = then(whole, whole)
        if digit == "1":
            whole = then(whole, part)
    return whole


def least_first(year, butt):
    """The least first level with which nothing is bought in one year; None if there is none."""
    need, _, _, more, _ = part_of(year.runs, butt)
    return need if more == 0 else None


def most_first(year, butt):
    """The greatest first level with which nothing is spilled in one year; None if there is none."""
    _, room, _, _, over = part_of(year.runs, butt)
    return room if over == 0 else None


def level_on(year, butt, first, number):
    """The level behind so many runs, the year coming again and again."""
    return through(_part_on(year, butt, number), first)[0]


def bought_by(year, butt, first, number):
    """What is bought in so many runs."""
    return through(_part_on(year, butt, number), first)[1]


def spilled_by(year, butt, first, number):
    """What is spilled in so many runs."""
    return through(_part_on(year, butt, number), first)[2]


def _part_on(year, butt, number):
    years, rest = divmod(number, len(year))
    part = part_of(year.runs[:rest], butt)
    if years == 0:
        return part
    return then(times(part_of(year.runs, butt), years), part)

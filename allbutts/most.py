"""The same runs in all orders: which order buys the most, and which one the least."""

from allbutts.heaps import bought_by_heap, heap_within
from allbutts.years import Year, is_runs, swings_of


def is_order(runs, thing):
    """Whether thing is an order of these runs: a tuple of just these, each as often."""
    return is_runs(thing) and sorted(thing) == sorted(runs)


def worst_order(runs):
    """An order than which none buys more, whatever the butt: all rain, then all watering."""
    return tuple([run for run in runs if run > 0] + [run for run in runs if run < 0])


def most_bought(runs, butt):
    """The most that is bought by an order with this butt."""
    return bought_by_heap(Year(worst_order(runs)).heap, butt)


def _orders(runs):
    """All unlike orders that begin with the first one of the runs; as a year is a ring, they have all swings."""
    rows = [((runs[0],), sorted(runs[1:]))]
    for _ in runs[1:]:
        rows = [longer for row in rows for longer in _all_longer(row)]
    return [order for order, _ in rows]


def _all_longer(row):
    """Each way to put one of the runs that are left behind the order, equal ones just once."""
    order, left = row
    found = []
    for place, run in enumerate(left):
        if place == 0 or left[place - 1] != run:
            found.append((order + (run,), left[:place] + left[place + 1:]))
    return found


def _orders_by_swings(runs):
    """For all swings that come about one order with them."""
    found = {}
    for order in _orders(runs):
        found.setdefault(swings_of(order), order)
    return found


def best_order(runs, butt):
    """An order that buys the least with this butt."""
    wants = Year(runs).wants
    rows = [(bought_by_heap((wants, swings), butt), order) for swings, order in _orders_by_swings(runs).items()]
    _, order = min(rows)
    return order


def least_bought(runs, butt):
    """The least that is bought by an order with this butt."""
    return bought_by_heap(Year(best_order(runs, butt)).heap, butt)


def is_best(runs, butt, thing):
    """Whether thing is an order that buys the least with this butt."""
    return is_order(runs, thing) and bought_by_heap(Year(thing).heap, butt) == least_bought(runs, butt)


def all_swings(runs):
    """The swings of all orders, ascending."""
    return sorted(_orders_by_swings(runs))


def best_for_all(runs):
    """An order that never buys more than any other one, whatever the butt; None if there is none."""
    # All orders want the same, so the swings alone tell which one buys less.
    orders = _orders_by_swings(runs)
    for swings, order in orders.items():
        if all([heap_within((0, swings), (0, other)) for other in orders]):
            return order
    return None


def how_many_orders(runs, swings):
    """How many unlike orders that begin with the first one of the runs have these swings."""
    return len([order for order in _orders(runs) if swings_of(order) == tuple(swings)])

"""Supply, demand and surplus of staircases, the least staircase, and the rooms for pairs.

The least staircase is made of pairs of orders: without its other pairs it would have the
same demand and not more supply. So only the days and the keeps of orders are looked at.
"""

from itertools import accumulate

from freshpromise.goods import pair_of, with_amount
from freshpromise.stairs import Stairs


def supply(lots, stairs):
    """Return the sum of the amounts of the lots whose pair is in a staircase."""
    return sum([lot[3] for lot in lots if pair_of(lot) in stairs])


def demand(orders, stairs):
    """Return the sum of the amounts of the orders whose pair is in a staircase."""
    return sum([order[3] for order in orders if pair_of(order) in stairs])


def surplus(lots, orders, stairs):
    """Return the supply of a staircase less its demand."""
    return supply(lots, stairs) - demand(orders, stairs)


def least_stairs(lots, orders):
    """Return the staircase of least surplus; of several ones the one within all others."""
    days = _days_of(orders)
    keeps = _keeps_of(orders)
    sums = _least_sums(lots, orders)
    corners = []
    at = len(days)
    for row in reversed(range(len(keeps))):
        # What all staircases of least surplus share is such a staircase, too: so each
        # keeps can have the fewest days that it has in any of them.
        at = sums[row + 1].index(sums[row + 1][at])
        if at > 0:
            corners.append((days[at - 1], keeps[row]))
    return Stairs(*corners)


def room_for(lots, orders, pair):
    """Return the room for a pair: the least surplus of all staircases that have it."""
    wish = great_wish(lots, pair)
    return _least_sums(lots, [*orders, wish])[-1][-1] + wish[3]


def room_stairs(lots, orders, pair):
    """Return the staircase of a pair: of those whose surplus is the room, the one within all others."""
    return least_stairs(lots, [*orders, great_wish(lots, pair)])


def rooms(lots, orders, *pairs):
    """Yield the rooms for some pairs, in their sequence."""
    for pair in pairs:
        yield room_for(lots, orders, pair)


def great_wish(lots, pair):
    """Return an order for a pair that asks for more than all lots have.

    With such an order no staircase without the pair has the least surplus, and all
    staircases that have the pair have as much less surplus.
    """
    return (0, pair[0], pair[1], sum([lot[3] for lot in lots]) + 1)


def _days_of(orders):
    """Return the days of some orders, ascending, each once."""
    return sorted({order[1] for order in orders})


def _keeps_of(orders):
    """Return the keeps of some orders, ascending, each once."""
    return sorted({order[2] for order in orders})


def _least_sums(lots, orders):
    """Return rows of least surpluses: one for no keeps, then one for each keeps of the orders.

    An entry is the least surplus of the staircases, counted up to this keeps, that have of it
    no more than so many of the orders' days. A staircase has of a later keeps as many days as
    of an earlier one, or more.
    """
    gains = _gains(lots, orders)
    found = [[0] * (len(_days_of(orders)) + 1)]
    for row in gains:
        sums = [before + gain for before, gain in zip(found[-1], accumulate(row))]
        found.append(list(accumulate(sums, min)))
    return found


def _gains(lots, orders):
    """Return a row for each keeps of the orders: 0, then for each of their days supply less demand.

    A lot is counted for the latest keeps and the earliest day of those that it suits: a
    staircase made of pairs of orders has the lot's pair exactly if it has this one.
    """
    days = _days_of(orders)
    keeps = _keeps_of(orders)
    rows = [[0] * (len(days) + 1) for kept in keeps]
    taken = [with_amount(order, -order[3]) for order in orders]
    for _, day, kept, amount in [*lots, *taken]:
        row = _many_below(keeps, kept + 1) - 1
        at = _many_below(days, day) + 1
        if row >= 0 and at <= len(days):
            rows[row][at] += amount
    return rows


def _many_below(numbers, limit):
    """Return how many of some ascending numbers are less than a limit."""
    low = 0
    high = len(numbers)
    while low < high:
        middle = (low + high) // 2
        if numbers[middle] < limit:
            low = middle + 1
        else:
            high = middle
    return low

"""Plans: which lots give how much to which orders.

A delivery is a tuple (order id, lot id, amount).
"""

from freshpromise.errors import NoRoom
from freshpromise.goods import is_whole, suits, with_amount
from freshpromise.sums import least_stairs, surplus


def is_plan(lots, orders, value):
    """Return whether any value is a plan for lots and orders."""
    if not (isinstance(value, list) and all([_is_delivery(part) for part in value])):
        return False
    if len({(part[0], part[1]) for part in value}) < len(value):
        return False
    if not _are_suited(lots, orders, value):
        return False
    got = _sums_by_id(value, 0)
    given = _sums_by_id(value, 1)
    served = all([got.get(order[0], 0) == order[3] for order in orders])
    return served and all([given.get(lot[0], 0) <= lot[3] for lot in lots])


def make_plan(lots, orders):
    """Return the plan for lots and orders; raise NoRoom with the least staircase if there is none."""
    deliveries = []
    shelf = sorted(lots, key=lambda lot: (lot[2], lot[1], lot[0]))
    for order in sorted(orders, key=lambda one: (one[1], one[2], one[0])):
        made = _deliveries_of(shelf, order)
        if sum([delivery[2] for delivery in made]) < order[3]:
            raise NoRoom(least_stairs(lots, orders))
        deliveries.extend(made)
        shelf = used(shelf, made)
    return deliveries


def is_barred(lots, orders, stairs):
    """Return whether a staircase shows that there is no plan."""
    return surplus(lots, orders, stairs) < 0


def used(lots, deliveries):
    """Return what is left of lots behind some deliveries, lots without goods left out."""
    given = _sums_by_id(deliveries, 1)
    left = [with_amount(lot, lot[3] - given.get(lot[0], 0)) for lot in lots]
    return [lot for lot in left if lot[3] > 0]


def _is_delivery(value):
    """Return whether any value has the form of a delivery."""
    if not (isinstance(value, tuple) and len(value) == 3):
        return False
    return all([is_whole(part) for part in value]) and value[2] >= 1


def _are_suited(lots, orders, deliveries):
    """Return whether all deliveries go from one of the lots to one of the orders that it suits."""
    givers = {lot[0]: lot for lot in lots}
    takers = {order[0]: order for order in orders}
    for taker, giver, _ in deliveries:
        if taker not in takers or giver not in givers:
            return False
        if not suits(givers[giver], takers[taker]):
            return False
    return True


def _sums_by_id(deliveries, at):
    """Return a dict of the sums of deliveries: by order ids if they are counted at 0, by lot ids at 1."""
    sums = {}
    for delivery in deliveries:
        sums[delivery[at]] = sums.get(delivery[at], 0) + delivery[2]
    return sums


def _deliveries_of(shelf, order):
    """Return the deliveries to an order from lots in the sequence in which they are taken."""
    made = []
    lacking = order[3]
    for lot in shelf:
        if lacking > 0 and suits(lot, order):
            many = min(lacking, lot[3])
            made.append((order[0], lot[0], many))
            lacking -= many
    return made

"""Cutting promises: how much the orders keep if there is no plan for all of them."""

from freshpromise.goods import is_whole, pair_of, with_amount
from freshpromise.plans import is_barred
from freshpromise.stairs import Stairs
from freshpromise.sums import least_stairs, room_for, room_stairs, surplus


def kept_amounts(lots, orders):
    """Return the amounts that orders, from the oldest to the youngest, keep."""
    if not least_stairs(lots, orders):
        return [order[3] for order in orders]
    amounts = []
    older = []
    for order in orders:
        amount = min(order[3], room_for(lots, older, pair_of(order)))
        amounts.append(amount)
        older = _with_kept(older, order, amount)
    return amounts


def cuts(lots, orders):
    """Yield (id, old amount, kept amount, staircase) for every order that is cut, from the oldest on."""
    older = []
    for order, amount in zip(orders, kept_amounts(lots, orders)):
        if amount < order[3]:
            yield (order[0], order[3], amount, room_stairs(lots, older, pair_of(order)))
        older = _with_kept(older, order, amount)


def cut_stairs(lots, orders):
    """Return the staircase with the pairs of the staircases of all orders that are cut."""
    stairs = Stairs()
    for cut in cuts(lots, orders):
        stairs = stairs | cut[3]
    return stairs


def is_kept(lots, orders, amounts, shown):
    """Return whether orders keep these amounts, as None or a staircase for each one shows."""
    if not len(orders) == len(amounts) == len(shown):
        return False
    older = []
    for order, amount, stairs in zip(orders, amounts, shown):
        if not (is_whole(amount) and 0 <= amount <= order[3]):
            return False
        if not _is_shown(lots, older, order, amount, stairs):
            return False
        older = _with_kept(older, order, amount)
    return not is_barred(lots, older, least_stairs(lots, older))


def _is_shown(lots, older, order, amount, stairs):
    """Return whether None or a staircase shows what an order keeps beside what older ones keep."""
    if amount == order[3]:
        return stairs is None
    if not (isinstance(stairs, Stairs) and pair_of(order) in stairs):
        return False
    return surplus(lots, older, stairs) == amount


def _with_kept(older, order, amount):
    """Return older orders and, if it keeps anything, one more with the amount that it keeps."""
    if amount == 0:
        return older
    return [*older, with_amount(order, amount)]

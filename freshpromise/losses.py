"""Losses: without which lots the least surplus is the least.

Only staircases that are made of pairs of orders are looked at, as in sums: keeps by keeps of
the orders, ascending, with so many of their days from the first one on, of a later keeps as
many or more. Sums stand in rows: one by the number of days, and such a row for each number of
lots that are lost.
"""

from itertools import accumulate


def worst_losses(lots, orders, lost):
    """Return (surplus, ids) of the choice of so many lots without which the least surplus is the least.

    All lots are lost if there are not more. Of several choices it is the one whose list of
    ascending ids is the least.
    """
    ranked = sorted(lots)
    # Lost lots are marked in the digits below the scale, those of lesser ids in higher ones:
    # so of several sums of the same surplus the least one tells the least list of ids.
    scale, *marks = _powers(len(ranked))
    days = sorted({order[1] for order in orders})
    found = [[0] * (len(days) + 1)]
    for asking, shelf in _by_keeps(orders, list(zip(ranked, marks))):
        asked = _amounts_by_days(asking, days, scale)
        found = [[before - taken for before, taken in zip(sums, asked)] for sums in found]
        for lot, mark in shelf:
            given = _amounts_by_days([lot], days, scale)
            found = _with_lot(found, given, mark)[:min(lost, len(lots)) + 1]
        found = [list(accumulate(sums, min)) for sums in found]
    lack, told = divmod(-found[-1][-1], scale)
    return (-lack, [lot[0] for lot, mark in zip(ranked, marks) if told & mark])


def _powers(many):
    """Return the powers of two from the one with so many factors down to 1."""
    found = [1]
    for _ in range(many):
        found.append(found[-1] * 2)
    return found[::-1]


def _by_keeps(orders, marked):
    """Return (orders, marked lots) for each keeps of the orders, ascending.

    The lots are those that keep so long, but not as long as the next orders ask. Ahead of all
    there are no orders and the lots that keep less long than any order asks: with their amounts
    a sum is not less than without them.
    """
    keeps = sorted({order[2] for order in orders})
    asking = [[order for order in orders if order[2] == kept] for kept in keeps]
    shelves = [[] for _ in range(len(keeps) + 1)]
    for lot, mark in marked:
        at = len([kept for kept in keeps if kept <= lot[2]])
        shelves[at].append((lot, mark))
    return list(zip([[], *asking], shelves))


def _amounts_by_days(goods, days, scale):
    """Return the scaled amounts of lots or orders up to no day, to the first day, to the second one, and so on."""
    sums = [sum([one[3] for one in goods if one[1] <= day]) for day in days]
    return [0, *[amount * scale for amount in sums]]


def _with_lot(found, given, mark):
    """Return the sums for each number of lost lots, from 0 on, with one lot more, which is lost or not."""
    kept = [[before + more for before, more in zip(sums, given)] for sums in found]
    gone = [[before - mark for before in sums] for sums in found]
    either = [_lesser(first, second) for first, second in zip(gone, kept[1:])]
    return [kept[0], *either, gone[-1]]


def _lesser(first, second):
    """Return the lesser one of each two sums."""
    return [one if one < other else other for one, other in zip(first, second)]

"""Offers: the first delivery day that has enough room, and the longest keeping."""

from freshpromise.charts import RoomChart
from freshpromise.goods import is_pair, pair_of
from freshpromise.stairs import Stairs


def offer(lots, orders, day, span, amount):
    """Return the first delivery day, from a day on, with room for an amount; None if there is none."""
    chart = RoomChart(lots, orders)
    # From one day to the next one the room grows only if a lot is there from that day on.
    later = sorted([lot[1] for lot in lots if lot[1] > day])
    for first in [day, *later]:
        pair = (first, first + span)
        if is_pair(pair) and chart.room(pair) >= amount:
            return first
    return None


def barred_days(lots, orders, day, span, amount):
    """Yield (d, staircase) for every day d before the offer, or else up to the greatest keeps of a lot."""
    chart = RoomChart(lots, orders)
    turns = _turns(lots, orders, day, span)
    for barred in range(day, _end_of_barred(lots, orders, day, span, amount)):
        pair = (barred, barred + span)
        # Up to the next turn only the pair itself is another one; the first day is a turn.
        if barred in turns:
            others = [corner for corner in chart.stairs_of(pair).corners if corner != pair]
        yield (barred, Stairs(*others, pair))


def longest_keeping(lots, orders, day, amount):
    """Return the greatest keeps for which a day has room for an amount; None if there is none."""
    chart = RoomChart(lots, orders)
    # From one keeps to the next one the room falls only if a lot keeps no longer.
    for keeps in sorted([lot[2] for lot in lots if lot[2] >= day], reverse=True):
        if chart.room((day, keeps)) >= amount:
            return keeps
    return None


def _end_of_barred(lots, orders, day, span, amount):
    """Return the day before which the days are barred."""
    offered = offer(lots, orders, day, span, amount)
    if offered is None:
        return max([lot[2] for lot in lots], default=-1) - span + 1
    return offered


def _turns(lots, orders, day, span):
    """Return a dict of a first day and the days on which pairs begin to bring along other goods than before."""
    turns = {day: True}
    for goods in [*lots, *orders]:
        start, keeps = pair_of(goods)
        turns[start] = True
        turns[keeps - span + 1] = True
    return turns

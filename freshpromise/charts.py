"""The rooms for all pairs and their staircases, worked out once for the same lots and orders.

The days and the keeps of the goods make a table: a row for each keeps, ascending, and one
more for all later keeps. A staircase has of each row so many days from the first one on, and
of a later row as many or more.
"""

from itertools import accumulate

from freshpromise.goods import with_amount
from freshpromise.stairs import Stairs


class RoomChart:
    """The rooms for pairs, and their staircases."""

    def __init__(self, lots, orders):
        taken = [with_amount(order, -order[3]) for order in orders]
        goods = [*lots, *taken]
        self._days = sorted({one[1] for one in goods})
        self._keeps = sorted({one[2] for one in goods})
        gains = _row_gains(goods, self._days, self._keeps)
        self._before = _sums_before(gains)
        self._onward = _sums_onward(gains)

    def room(self, pair):
        """Return the room for a pair."""
        return min(self._sums_with(pair))

    def stairs_of(self, pair):
        """Return the staircase of a pair."""
        sums = self._sums_with(pair)
        count = self._count_of(pair) + sums.index(min(sums))
        counts = self._least_counts(self._row_of(pair), count)
        pairs = [(self._days[many - 1], keeps) for many, keeps in zip(counts, self._keeps) if many > 0]
        return Stairs(*pairs, pair)

    def _count_of(self, pair):
        """Return how many days a staircase with a pair has at least of the pair's row."""
        return len([day for day in self._days if day <= pair[0]])

    def _row_of(self, pair):
        """Return the first row with keeps that a staircase with a pair has, too."""
        return len([keeps for keeps in self._keeps if keeps < pair[1]])

    def _sums_with(self, pair):
        """Return the least surpluses of staircases with a pair, by their days of its row, from the fewest on."""
        row = self._row_of(pair)
        count = self._count_of(pair)
        before = self._before[row][count:]
        return [first + second for first, second in zip(before, self._onward[row][count:])]

    def _least_counts(self, row, count):
        """Return how many days of each row the least one of the best staircases has that have so many of one row."""
        counts = [count] * (len(self._keeps) + 1)
        for at in reversed(range(row)):
            sums = self._before[at + 1]
            counts[at] = sums.index(sums[counts[at + 1]])
        for at in range(row + 1, len(counts)):
            sums = self._onward[at]
            fewest = counts[at - 1]
            counts[at] = sums.index(min(sums[fewest:]), fewest)
        return counts


def _row_gains(goods, days, keeps):
    """Return for each row what its days add to the surplus: those before the first day, the second one, and so on.

    The last row is the one for all later keeps, of which there are no goods.
    """
    column = {day: at + 1 for at, day in enumerate(days)}
    line = {kept: at for at, kept in enumerate(keeps)}
    rows = [[0] * (len(days) + 1) for _ in range(len(keeps) + 1)]
    for _, day, kept, amount in goods:
        rows[line[kept]][column[day]] += amount
    return [list(accumulate(row)) for row in rows]


def _sums_before(gains):
    """Return for each row the least sums of the rows before it that have of no row more than so many days."""
    found = [[0] * len(gains[0])]
    for row in gains[:-1]:
        sums = [before + gain for before, gain in zip(found[-1], row)]
        found.append(list(accumulate(sums, min)))
    return found


def _sums_onward(gains):
    """Return for each row the least sums of this and all later rows that have of this one just so many days."""
    found = [gains[-1]]
    for row in reversed(gains[:-1]):
        backward = found[-1][::-1]
        later = list(accumulate(backward, min))[::-1]
        found.append([gain + least for gain, least in zip(row, later)])
    return found[::-1]

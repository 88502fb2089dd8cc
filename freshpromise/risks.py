"""Risks: what the loss of lots does to promises, and what can be taken away without any harm."""

from freshpromise.goods import find_goods, pair_of
from freshpromise.losses import worst_losses
from freshpromise.sums import great_wish, least_stairs, room_for, room_stairs, surplus


def burden(lots, orders, ident):
    """Return the amount by which promises must be cut in sum if a lot is lost; raise UnknownId if there is none."""
    lot = find_goods(lots, ident)
    rest = _without(lots, [lot[0]])
    # The staircase of least surplus shows how much must be cut in sum.
    return -surplus(rest, orders, least_stairs(rest, orders))


def spare(lots, orders, ident):
    """Return how much of a lot can be taken away; raise UnknownId if there is none with this id."""
    lot = find_goods(lots, ident)
    return min(lot[3], room_for(lots, orders, pair_of(lot)))


def safe_room(lots, orders, pair, *, lost=1):
    """Return the least room for a pair that there is without so many lots, whichever they are."""
    wish = great_wish(lots, pair)
    least, _ = worst_losses(lots, [*orders, wish], lost)
    return least + wish[3]


def is_safe(lots, orders, *, lost=1):
    """Return whether there is a plan without so many lots, whichever they are."""
    least, _ = worst_losses(lots, orders, lost)
    return least >= 0


def worst_loss(lots, orders, *, lost=1):
    """Return (ids, staircase): so many lots without which the least surplus is the least, and the staircase then."""
    _, idents = worst_losses(lots, orders, lost)
    return (idents, least_stairs(_without(lots, idents), orders))


def blockers(lots, orders, pair):
    """Yield the ids of the orders whose pair is in the staircase of a pair, in their sequence."""
    stairs = room_stairs(lots, orders, pair)
    for order in orders:
        if pair_of(order) in stairs:
            yield order[0]


def _without(lots, idents):
    """Return the lots without those of some ids."""
    return [lot for lot in lots if lot[0] not in idents]

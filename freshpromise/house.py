"""The house: a day, its lots and its orders, with a plan for them, and their changes."""

from freshpromise.cuts import cuts
from freshpromise.errors import BadDay, BadGoods, NoRoom, NothingToDo, TakenId, TooMany
from freshpromise.goods import find_goods, is_amount, is_day, is_goods, is_pair, with_amount
from freshpromise.plans import make_plan, used
from freshpromise.sums import room_for, room_stairs


class House:
    """A house that promises only what it can deliver.

    Its state is a tuple (today, lots, orders). The lists in it are not changed, but replaced
    by others: so states that can come back share what they have in common.
    """

    LIMIT = 100

    def __init__(self, *, today=0):
        if not is_day(today):
            raise BadDay(today)
        self._state = (today, [], [])
        self._done = []
        self._undone = []

    @classmethod
    def made(cls, today, lots, orders):
        """Return a house with these parts, which are right, and nothing to undo or redo."""
        house = cls(today=today)
        house._state = (today, sorted(lots), list(orders))
        return house

    @property
    def today(self):
        """The day of the house."""
        return self._state[0]

    @property
    def lots(self):
        """The list of the lots by ascending ids."""
        return list(self._state[1])

    @property
    def orders(self):
        """The list of the orders from the oldest on."""
        return list(self._state[2])

    def lot(self, ident):
        """Return the lot with an id; raise UnknownId if there is none."""
        return find_goods(self.lots, ident)

    def order(self, ident):
        """Return the order with an id; raise UnknownId if there is none."""
        return find_goods(self.orders, ident)

    def room(self, day, keeps):
        """Return the room for a pair; raise BadDay if it is none, or for a day before today."""
        pair = (day, keeps)
        if not is_pair(pair) or day < self.today:
            raise BadDay(pair)
        return room_for(self.lots, self.orders, pair)

    def add_lot(self, ident, day, keeps, amount):
        """Add a lot; raise BadGoods, TakenId or TooMany if it can't be added."""
        lot = (ident, day, keeps, amount)
        self._check_lot(lot)
        today, lots, orders = self._state
        _check_place(lots, ident)
        self._change(today, sorted(lots + [lot]), orders)

    def accept(self, ident, day, keeps, amount):
        """Accept an order; raise BadGoods, TakenId, TooMany or NoRoom if it can't be accepted."""
        order = (ident, day, keeps, amount)
        today, lots, orders = self._state
        if not is_goods(order) or day < today:
            raise BadGoods(order)
        _check_place(orders, ident)
        pair = (day, keeps)
        if amount > room_for(lots, orders, pair):
            raise NoRoom(room_stairs(lots, orders, pair))
        self._change(today, lots, orders + [order])

    def cancel(self, ident):
        """Cancel an order; raise UnknownId if there is none with this id."""
        today, lots, orders = self._state
        self._change(today, lots, _replaced(orders, self.order(ident), []))

    def lessen(self, ident, amount):
        """Make an order less; raise UnknownId, or BadGoods if the amount is not one less than before."""
        today, lots, orders = self._state
        order = self.order(ident)
        if not is_amount(amount) or amount >= order[3]:
            raise BadGoods(amount)
        self._change(today, lots, _replaced(orders, order, [with_amount(order, amount)]))

    def change_lot(self, ident, day, keeps, amount):
        """Change a lot and return the cuts; raise UnknownId or BadGoods if it can't be changed."""
        return self._cut(self._lots_changed(ident, day, keeps, amount))

    def recall(self, ident):
        """Recall a lot and return the cuts; raise UnknownId if there is none with this id."""
        return self._cut(self._lots_without(ident))

    def cuts_if(self, ident, day, keeps, amount):
        """Return the cuts that change_lot would return, and raise the same errors."""
        lots, orders = self._lots_changed(ident, day, keeps, amount), self.orders
        return list(cuts(lots, orders))

    def cuts_if_recalled(self, ident):
        """Return the cuts that recall would return, and raise the same errors."""
        lots, orders = self._lots_without(ident), self.orders
        return list(cuts(lots, orders))

    def close_day(self):
        """Make the deliveries of today, go to the next day and return the deliveries."""
        today, lots, orders = self._state
        if not is_day(today + 1):
            raise BadDay(today + 1)
        due = [order[0] for order in orders if order[1] == today]
        deliveries = [delivery for delivery in make_plan(lots, orders) if delivery[0] in due]
        left = [lot for lot in used(lots, deliveries) if lot[2] > today]
        self._change(today + 1, left, [order for order in orders if order[1] > today])
        return deliveries

    def undo(self):
        """Take back the last change; raise NothingToDo if there is none."""
        if not self._done:
            raise NothingToDo("undo")
        self._undone.append(self._state)
        self._state = self._done.pop()

    def redo(self):
        """Do the last undone change again; raise NothingToDo if there is none."""
        if not self._undone:
            raise NothingToDo("redo")
        self._done.append(self._state)
        self._state = self._undone.pop()

    def copied(self):
        """Return a house with the same parts and nothing to undo or redo."""
        return House.made(self.today, self.lots, self.orders)

    def same(self, other):
        """Return whether another house has the same day, lots and orders."""
        return self._state == other._state

    def _check_lot(self, lot):
        """Raise BadGoods if this is not a lot, or if it keeps less long than today."""
        if not is_goods(lot) or lot[2] < self.today:
            raise BadGoods(lot)

    def _lots_changed(self, ident, day, keeps, amount):
        """Return the lots with a changed one."""
        lot = (ident, day, keeps, amount)
        old = self.lot(ident)
        self._check_lot(lot)
        return _replaced(self.lots, old, [lot])

    def _lots_without(self, ident):
        """Return the lots without one."""
        return _replaced(self.lots, self.lot(ident), [])

    def _cut(self, lots):
        """Have these lots instead, keep of the orders what can be kept, and return the cuts."""
        today, _, orders = self._state
        found = list(cuts(lots, orders))
        self._change(today, lots, _kept_orders(orders, found))
        return found

    def _change(self, today, lots, orders):
        """Have another state; what was undone before can't be done again."""
        self._done.append(self._state)
        self._undone = []
        self._state = (today, lots, orders)


def _check_place(goods, ident):
    """Raise TakenId or TooMany if lots or orders can't get one more with this id."""
    if ident in [one[0] for one in goods]:
        raise TakenId(ident)
    if len(goods) >= House.LIMIT:
        raise TooMany(len(goods) + 1)


def _kept_orders(orders, found):
    """Return what orders keep behind the cuts that were found; those that keep nothing are left out."""
    kept = {cut[0]: cut[2] for cut in found}
    left = [with_amount(order, kept.get(order[0], order[3])) for order in orders]
    return [order for order in left if order[3] > 0]


def _replaced(goods, old, new):
    """Return lots or orders with others in the place of one."""
    at = goods.index(old)
    return goods[:at] + new + goods[at + 1:]

"""Plain models of a house and of a group.

The rooms, cuts and plans of a house are found by delivering, its history is a list of copies.
"""

import copy
import re

from freshpromise.errors import NothingToDo
from freshpromise.stairs import Stairs
from freshpromise.sums import room_stairs
from tests.helpers import can_serve, plain_kept, plain_plan, plain_room


def answer(call, *values, **named):
    """Return what a call returns, or the name of its error and the value that the error keeps."""
    try:
        return call(*values, **named)
    except ValueError as error:
        [kept] = vars(error).values()
        return [type(error).__name__, kept]


def parts(house):
    """Return the day, the lots and the orders of a house."""
    return house.today, house.lots, house.orders


def history(house):
    """Return the parts of a house, and those that can be undone and redone, in the sequence in which they come."""
    found = [[parts(house)]]
    for step in ["undo", "redo"]:
        twin = copy.deepcopy(house)
        ways = []
        try:
            while True:
                getattr(twin, step)()
                ways.append(parts(twin))
        except NothingToDo:
            found.append(ways)
    return found


def is_number(value, low, high):
    """Return whether a value is an integer between two others."""
    return type(value) is int and low <= value <= high


def are_goods(values):
    """Return whether four values make a lot or an order."""
    ident, day, keeps, amount = values
    if not (is_number(ident, 1, 10 ** 6) and is_number(amount, 1, 10 ** 9)):
        return False
    return is_number(day, 0, 10 ** 6) and is_number(keeps, 0, 10 ** 6) and day <= keeps


class PlainHouse:
    """Each method gives what `answer` gives for the method of a house."""

    def __init__(self):
        self.today, self.stock, self.orders = 0, {}, []
        self.back, self.forth = [], []

    @property
    def lots(self):
        return [self.stock[ident] for ident in sorted(self.stock)]

    def kept(self):
        return copy.deepcopy([self.today, self.stock, self.orders])

    def note(self):
        self.back.append(self.kept())
        self.forth = []

    def place(self, ident):
        places = [at for at, order in enumerate(self.orders) if type(ident) is int and order[0] == ident]
        return places[0] if places else None

    def add_lot(self, *lot):
        if not are_goods(lot) or lot[2] < self.today:
            return ["BadGoods", lot]
        if lot[0] in self.stock:
            return ["TakenId", lot[0]]
        if len(self.stock) == 100:
            return ["TooMany", 101]
        self.note()
        self.stock[lot[0]] = lot

    def accept(self, *order):
        if not are_goods(order) or order[1] < self.today:
            return ["BadGoods", order]
        if self.place(order[0]) is not None:
            return ["TakenId", order[0]]
        if len(self.orders) == 100:
            return ["TooMany", 101]
        if order[3] > plain_room(self.lots, self.orders, order[1:3]):
            return ["NoRoom", room_stairs(self.lots, self.orders, order[1:3])]
        self.note()
        self.orders.append(order)

    def cancel(self, ident):
        at = self.place(ident)
        if at is None:
            return ["UnknownId", ident]
        self.note()
        del self.orders[at]

    def lessen(self, ident, amount):
        at = self.place(ident)
        if at is None:
            return ["UnknownId", ident]
        if not is_number(amount, 1, self.orders[at][3] - 1):
            return ["BadGoods", amount]
        self.note()
        self.orders[at] = (*self.orders[at][:3], amount)

    def cuts_for(self, stock):
        lots, found, older = [stock[ident] for ident in sorted(stock)], [], []
        for order, amount in zip(self.orders, plain_kept(lots, self.orders)):
            if amount < order[3]:
                found.append((order[0], order[3], amount, room_stairs(lots, older, order[1:3])))
            older += [(*order[:3], amount)] if amount else []
        return found, older

    def stock_if(self, ident, *lot):
        """Return the lots behind a change of one, or behind its recall; or the error."""
        if type(ident) is not int or ident not in self.stock:
            return ["UnknownId", ident]
        if lot and (not are_goods((ident, *lot)) or lot[1] < self.today):
            return ["BadGoods", (ident, *lot)]
        stock = dict(self.stock)
        del stock[ident]
        return {**stock, ident: (ident, *lot)} if lot else stock

    def cuts_if(self, ident, *lot):
        stock = self.stock_if(ident, *lot)
        return self.cuts_for(stock)[0] if isinstance(stock, dict) else stock

    cuts_if_recalled = cuts_if

    def change_lot(self, ident, *lot):
        stock = self.stock_if(ident, *lot)
        if isinstance(stock, list):
            return stock
        found, orders = self.cuts_for(stock)
        self.note()
        self.stock, self.orders = stock, orders
        return found

    recall = change_lot

    def close_day(self):
        if self.today == 10 ** 6:
            return ["BadDay", 10 ** 6 + 1]
        self.note()
        due = [order[0] for order in self.orders if order[1] == self.today]
        made = [part for part in plain_plan(self.lots, self.orders) if part[0] in due]
        for _, ident, many in made:
            lot = self.stock[ident]
            self.stock[ident] = (*lot[:3], lot[3] - many)
        self.today += 1
        self.stock = {ident: lot for ident, lot in self.stock.items() if lot[3] and lot[2] >= self.today}
        self.orders = [order for order in self.orders if order[0] not in due]
        return made

    def room(self, day, keeps):
        if not are_goods((1, day, keeps, 1)) or day < self.today:
            return ["BadDay", (day, keeps)]
        return plain_room(self.lots, self.orders, (day, keeps))

    def undo(self):
        if not self.back:
            return ["NothingToDo", "undo"]
        self.forth.append(self.kept())
        self.today, self.stock, self.orders = self.back.pop()

    def redo(self):
        if not self.forth:
            return ["NothingToDo", "redo"]
        self.back.append(self.kept())
        self.today, self.stock, self.orders = self.forth.pop()


class PlainGroup:
    """Each method gives what `answer` gives for the method of a group."""

    def __init__(self):
        self.houses = {}

    def open_house(self, name, today=0):
        if type(name) is not str or re.fullmatch("[a-z]{1,8}", name) is None:
            return ["UnknownName", name]
        if name in self.houses:
            return ["TakenName", name]
        if not is_number(today, 0, 10 ** 6):
            return ["BadDay", today]
        self.houses[name] = PlainHouse()
        self.houses[name].today = today

    def send(self, source, target, ident, amount, days, new_id):
        for name in [source, target]:
            if type(name) is not str or name not in self.houses:
                return ["UnknownName", name]
        giver, taker = self.houses[source], self.houses[target]
        if type(ident) is not int or ident not in giver.stock:
            return ["UnknownId", ident]
        lot = giver.stock[ident]
        if not is_number(amount, 1, lot[3]):
            return ["BadGoods", amount]
        left = {**giver.stock, ident: (*lot[:3], lot[3] - amount)}
        if not can_serve(list(left.values()), giver.orders):
            return ["BadGoods", amount]
        sent = (new_id, max(lot[1], giver.today) + days, lot[2], amount)
        wrong = taker.add_lot(*sent)
        if wrong:
            return wrong
        giver.note()
        giver.stock = {one: left[one] for one in left if left[one][3]}
        return sent

    def accept(self, *order):
        if not are_goods(order):
            return ["BadGoods", order]
        shown = [["NoRoom", Stairs()]]
        for name in sorted(self.houses):
            found = self.houses[name].accept(*order)
            if found is None:
                return name
            if found[0] == "NoRoom":
                shown.append(found)
        return shown[1] if shown[1:] else shown[0]

    def find(self, ident):
        orders = [(name, order) for name in sorted(self.houses) for order in self.houses[name].orders]
        return [(name, order) for name, order in orders if type(ident) is int and order[0] == ident]

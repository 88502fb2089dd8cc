"""Groups of houses: goods are sent from one to another, and orders are accepted anywhere."""

from freshpromise.errors import BadGoods, NoRoom, TakenId, TakenName, TooMany, UnknownName
from freshpromise.goods import is_amount, is_goods, is_whole
from freshpromise.house import House
from freshpromise.risks import spare
from freshpromise.stairs import Stairs

LETTERS = "abcdefghijklmnopqrstuvwxyz"
MOST_LETTERS = 8


class Group:
    """Houses with names."""

    def __init__(self):
        self._houses = {}

    def open_house(self, name, *, today=0):
        """Add a house; raise UnknownName, TakenName or BadDay if it can't be added."""
        if not _is_name(name):
            raise UnknownName(name)
        if name in self._houses:
            raise TakenName(name)
        self._houses[name] = House(today=today)

    def house(self, name):
        """Return the house itself of a name; raise UnknownName for any other value."""
        if not (isinstance(name, str) and name in self._houses):
            raise UnknownName(name)
        return self._houses[name]

    @property
    def names(self):
        """The list of the names, ascending."""
        return sorted(self._houses)

    def send(self, source, target, ident, amount, *, days, new_id):
        """Send a part of a lot to another house and return the lot that this one gets.

        Raise UnknownName, UnknownId, BadGoods, TakenId or TooMany if it can't be sent.
        """
        giver, taker = self.house(source), self.house(target)
        _, day, keeps, old = giver.lot(ident)
        if not is_amount(amount) or amount > spare(giver.lots, giver.orders, ident):
            raise BadGoods(amount)
        sent = (new_id, max(day, giver.today) + days, keeps, amount)
        # The other house comes first: only there something can still be wrong.
        taker.add_lot(*sent)
        if amount == old:
            giver.recall(ident)
        else:
            giver.change_lot(ident, day, keeps, old - amount)
        return sent

    def accept(self, ident, day, keeps, amount):
        """Accept an order by the first house with room for it and return the name; raise BadGoods or NoRoom."""
        order = (ident, day, keeps, amount)
        if not is_goods(order):
            raise BadGoods(order)
        shown = None
        for name in self.names:
            try:
                self._houses[name].accept(ident, day, keeps, amount)
                return name
            except NoRoom as error:
                if shown is None:
                    shown = error.stairs
            except (BadGoods, TakenId, TooMany):
                continue
        if shown is None:
            shown = Stairs()
        raise NoRoom(shown)

    def find(self, ident):
        """Yield (name, order) for every house that has an order with an id, in the sequence of names."""
        for name in self.names:
            for order in self._houses[name].orders:
                # True is equal to 1, but it is no id.
                if is_whole(ident) and order[0] == ident:
                    yield (name, order)


def _is_name(value):
    """Return whether any value is a name."""
    if not isinstance(value, str):
        return False
    return 1 <= len(value) <= MOST_LETTERS and all([sign in LETTERS for sign in value])

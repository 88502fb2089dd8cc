"""The console: a house that is told by commands what to do."""

from freshpromise.errors import BadCommand
from freshpromise.goods import is_amount, is_day, read_number
from freshpromise.house import House
from freshpromise.offers import longest_keeping, offer
from freshpromise.plans import make_plan
from freshpromise.sums import room_stairs
from freshpromise.texts import house_text


class Console:
    """A console: it executes commands for its house."""

    def __init__(self):
        self._house = House()

    def __call__(self, command):
        """Execute a command and return a text; raise BadCommand for any value that is not a command."""
        word, numbers = _command_told(command)
        if word == "new":
            self._house = House(today=numbers[0])
            return "ok"
        action = ACTIONS[word]
        return action(self._house, *numbers)


def _command_told(command):
    """Return the word and the numbers of a command; raise BadCommand for any other value."""
    if not isinstance(command, str):
        raise BadCommand(command)
    word, *rest = command.split(" ")
    numbers = [read_number(part) for part in rest]
    if COUNTS.get(word) != len(numbers) or None in numbers:
        raise BadCommand(command)
    if word in ("new", "offer", "longest") and not is_day(numbers[0]):
        raise BadCommand(command)
    if word in ("offer", "longest") and not is_amount(numbers[-1]):
        raise BadCommand(command)
    return (word, numbers)


def _ok_with(told):
    """Return "ok" and what is told behind it; "ok" alone if nothing is told."""
    if told == "":
        return "ok"
    return f"ok {told}"


def _deliveries_told(deliveries):
    """Return the text that tells deliveries."""
    return ", ".join([f"{order} {lot} {amount}" for order, lot, amount in deliveries])


def _cuts_told(found):
    """Return the text that tells cuts."""
    return ", ".join([f"{ident} {old} -> {kept}" for ident, old, kept, _ in found])


def _day_or_none(day):
    """Return the text of a day, or "none" if there is none."""
    if day is None:
        return "none"
    return str(day)


def _add_lot(house, ident, day, keeps, amount):
    """Execute "lot"."""
    house.add_lot(ident, day, keeps, amount)
    return "ok"


def _accept(house, ident, day, keeps, amount):
    """Execute "order"."""
    house.accept(ident, day, keeps, amount)
    return "ok"


def _cancel(house, ident):
    """Execute "cancel"."""
    house.cancel(ident)
    return "ok"


def _lessen(house, ident, amount):
    """Execute "less"."""
    house.lessen(ident, amount)
    return "ok"


def _change_lot(house, ident, day, keeps, amount):
    """Execute "change"."""
    return _ok_with(_cuts_told(house.change_lot(ident, day, keeps, amount)))


def _recall(house, ident):
    """Execute "recall"."""
    return _ok_with(_cuts_told(house.recall(ident)))


def _close_day(house):
    """Execute "close"."""
    return _ok_with(_deliveries_told(house.close_day()))


def _undo(house):
    """Execute "undo"."""
    house.undo()
    return "ok"


def _redo(house):
    """Execute "redo"."""
    house.redo()
    return "ok"


def _room(house, day, keeps):
    """Execute "room"."""
    return str(house.room(day, keeps))


def _stairs(house, day, keeps):
    """Execute "stairs"."""
    # The room is asked for because of its errors: those of "stairs" are the same.
    house.room(day, keeps)
    return room_stairs(house.lots, house.orders, (day, keeps)).text


def _offer(house, day, span, amount):
    """Execute "offer"."""
    return _day_or_none(offer(house.lots, house.orders, day, span, amount))


def _longest(house, day, amount):
    """Execute "longest"."""
    return _day_or_none(longest_keeping(house.lots, house.orders, day, amount))


def _plan(house):
    """Execute "plan"."""
    deliveries = make_plan(house.lots, house.orders)
    if not deliveries:
        return "none"
    return _deliveries_told(deliveries)


def _save(house):
    """Execute "save"."""
    return house_text(house)


# How many numbers stand behind the word of each command.
COUNTS = {
    "new": 1, "lot": 4, "order": 4, "cancel": 1, "less": 2, "change": 4, "recall": 1, "close": 0, "undo": 0, "redo": 0,
    "room": 2, "stairs": 2, "offer": 3, "longest": 2, "plan": 0, "save": 0,
}
ACTIONS = {
    "lot": _add_lot, "order": _accept, "cancel": _cancel, "less": _lessen, "change": _change_lot, "recall": _recall,
    "close": _close_day, "undo": _undo, "redo": _redo, "room": _room, "stairs": _stairs, "offer": _offer,
    "longest": _longest, "plan": _plan, "save": _save,
}

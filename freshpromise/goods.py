"""Days, amounts, ids, pairs, lots and orders, and how integers are written.

A pair is a tuple (day, keeps); a lot or an order is a tuple (id, day, keeps, amount).
"""

from freshpromise.errors import UnknownId

LAST_DAY = 1000000
MOST = 1000000000
LAST_ID = 1000000
MOST_DIGITS = 60


def is_whole(value):
    """Return whether any value is an integer."""
    return isinstance(value, int) and not isinstance(value, bool)


def is_day(value):
    """Return whether any value is a day."""
    return is_whole(value) and 0 <= value <= LAST_DAY


def is_amount(value):
    """Return whether any value is an amount."""
    return is_whole(value) and 1 <= value <= MOST


def is_id(value):
    """Return whether any value is an id."""
    return is_whole(value) and 1 <= value <= LAST_ID


def is_pair(value):
    """Return whether any value is a pair."""
    if not (isinstance(value, tuple) and len(value) == 2):
        return False
    day, keeps = value
    return is_day(day) and is_day(keeps) and day <= keeps


def is_goods(value):
    """Return whether any value is a lot or an order."""
    if not (isinstance(value, tuple) and len(value) == 4):
        return False
    ident, day, keeps, amount = value
    return is_id(ident) and is_pair((day, keeps)) and is_amount(amount)


def suits(lot, order):
    """Return whether a lot suits an order."""
    return suits_pair(lot, pair_of(order))


def suits_pair(lot, pair):
    """Return whether a lot suits a pair."""
    lot_day, lot_keeps = pair_of(lot)
    day, keeps = pair
    return lot_day <= day and lot_keeps >= keeps


def pair_of(goods):
    """Return the pair of a lot or order."""
    return (goods[1], goods[2])


def with_amount(goods, amount):
    """Return the same lot or order with another amount."""
    ident, day, keeps, _ = goods
    return (ident, day, keeps, amount)


def find_goods(goods, ident):
    """Return the one of some lots or orders with an id; raise UnknownId for any other value."""
    # True is equal to 1, but it is no id.
    if is_whole(ident):
        for one in goods:
            if one[0] == ident:
                return one
    raise UnknownId(ident)


def read_number(word):
    """Return the integer that a word tells, or None if no integer is written so."""
    if not (word.isascii() and word.isdigit()) or len(word) > MOST_DIGITS:
        return None
    if word != "0" and word.startswith("0"):
        return None
    return int(word)

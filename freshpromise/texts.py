"""Texts of houses, and tables of their rooms."""

from freshpromise.charts import RoomChart
from freshpromise.errors import BadText
from freshpromise.goods import is_day, is_goods, read_number
from freshpromise.house import House
from freshpromise.sums import least_stairs


def house_text(house):
    """Return the text of a house."""
    lots = [_goods_line("lot", lot) for lot in house.lots]
    orders = [_goods_line("order", order) for order in house.orders]
    return "\n".join([f"house {house.today}", *lots, *orders])


def read_house(text):
    """Return the house that a text tells, with nothing to undo or redo; raise BadText for any other value."""
    numbers = _numbers_told(text)
    if numbers is None:
        raise BadText(text)
    head, lots, orders = numbers
    if not (len(head) == 1 and is_day(head[0]) and _are_parts(head[0], lots, orders)):
        raise BadText(text)
    return House.made(head[0], lots, orders)


def table(house, *, first, days, spans):
    """Return the table of the rooms for so many days from a first one on, and for so many spans from 0 on."""
    chart = RoomChart(house.lots, house.orders)
    return "\n".join([_table_line(chart, day, spans) for day in range(first, first + days)])


def _goods_line(word, goods):
    """Return the line of a lot or order."""
    ident, day, keeps, amount = goods
    return f"{word} {ident} {day} {keeps} {amount}"


def _table_line(chart, day, spans):
    """Return the line of a day in a table."""
    found = [chart.room((day, day + span)) for span in range(spans)]
    cells = [f":{room:>10}" for room in found]
    return "".join([f"{day:>7}", *cells])


def _numbers_told(text):
    """Return (head, lots, orders): what stands behind the words "house", "lot" and "order" of a text.

    Each line gives a tuple of numbers, with None for what is no number; lots and orders are
    lists of these. None is returned for any value that is not a text with these words in this
    sequence.
    """
    if not isinstance(text, str):
        return None
    rows = [line.split(" ") for line in text.split("\n")]
    words = [row[0] for row in rows]
    end = words.count("lot") + 1
    if words != ["house"] + ["lot"] * (end - 1) + ["order"] * (len(words) - end):
        return None
    numbers = [tuple([read_number(word) for word in row[1:]]) for row in rows]
    return (numbers[0], numbers[1:end], numbers[end:])


def _are_parts(today, lots, orders):
    """Return whether any tuples are the lots, by ascending ids, and the orders of a house of a day."""
    if max(len(lots), len(orders)) > House.LIMIT:
        return False
    if not all([is_goods(one) for one in [*lots, *orders]]):
        return False
    idents = [lot[0] for lot in lots]
    if idents != sorted(set(idents)) or len({order[0] for order in orders}) < len(orders):
        return False
    if not all([lot[2] >= today for lot in lots]) or not all([order[1] >= today for order in orders]):
        return False
    return not least_stairs(lots, orders)

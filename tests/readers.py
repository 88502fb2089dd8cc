"""A plain reading of the texts of houses and of commands, by their form as a whole; and small changes of texts."""

import re

from freshpromise.sums import room_stairs
from tests.helpers import can_serve, plain_plan, plain_room
from tests.models import PlainHouse, are_goods

NUMBER = "(?:0|[1-9][0-9]{0,59})"
FOUR = " ".join([NUMBER] * 4)
HOUSE = re.compile(f"house ({NUMBER})((?:\nlot {FOUR})*)((?:\norder {FOUR})*)")
DAY, MANY = 10 ** 6, 10 ** 9


def rows_told(text):
    """Return the numbers of each line of a text."""
    return [tuple(int(word) for word in re.findall("[0-9]+", line)) for line in text.split("\n")[1:]]


def plain_parts(text):
    """Return the day, the lots and the orders that a text tells, or None if it is not the text of a house."""
    told = HOUSE.fullmatch(text) if isinstance(text, str) else None
    if told is None:
        return None
    today, lots, orders = int(told[1]), rows_told(told[2]), rows_told(told[3])
    if today > DAY or len(lots) > 100 or len(orders) > 100:
        return None
    if any(not are_goods(one) for one in lots + orders):
        return None
    if any(first[0] >= second[0] for first, second in zip(lots, lots[1:])):
        return None
    if len(set(order[0] for order in orders)) != len(orders):
        return None
    if any(lot[2] < today for lot in lots) or any(order[1] < today for order in orders):
        return None
    return (today, lots, orders) if can_serve(lots, orders) else None


def plain_text(today, lots, orders):
    """Return the text of a house with these parts."""
    text = "house " + str(today)
    for word, goods in [("lot", lots), ("order", orders)]:
        for one in goods:
            text += "\n" + word + "".join(" " + str(number) for number in one)
    return text


WORDS = ["", "0", "1", "2", "3", "5", "8", "lot", "order", "house", "Lot", "x", "-1", "+1", "1.0", "1_0", "None",
         "1000000", "1000001", "1" + "0" * 9, "1" + "0" * 9 + "1", "9" * 60, "9" * 61, "0" * 60 + "1", "00", "~"]


def changed_words(chance, text):
    """Return a text with one word replaced by another one."""
    words = re.split("([ \n])", text)
    words[chance.randrange(0, len(words), 2)] = chance.choice(WORDS)
    return "".join(words)


def changed_number(chance, text):
    """Return a text with one number by one greater or less, with leading zeros or with a sign, or with more digits."""
    found = list(re.finditer("[0-9]+", text))
    if not found:
        return text
    place = chance.choice(found)
    number = int(place[0])
    new = chance.choice([str(number + 1), str(number - 1), str(number + 1), "0" + place[0], "00" + place[0],
                         "+" + place[0], "-" + place[0], place[0] + "0" * 60, place[0] + "0" * 5])
    return text[:place.start()] + new + text[place.end():]


def changed_sign(chance, text):
    """Return a text with one sign put in, left out or replaced."""
    at = chance.randrange(len(text) + 1)
    sign = chance.choice([" ", "\n", "0", "1", "a", "-", ",", "\t", "", ""])
    return text[:at] + sign + text[at + chance.choice([0, 1]):]


def changed_lines(chance, text):
    """Return a text with one line removed, repeated or moved, or with two lines swapped."""
    lines = text.split("\n")
    first, second = chance.randrange(len(lines)), chance.randrange(len(lines))
    way = chance.choice(["remove", "repeat", "move", "swap"])
    if way == "swap":
        lines[first], lines[second] = lines[second], lines[first]
    else:
        line = lines[first]
        if way != "repeat":
            del lines[first]
        if way != "remove":
            lines.insert(second, line)
    return "\n".join(lines)


def changed_ends(chance, text):
    """Return a text with something more at one of its ends or between two words."""
    way = chance.choice(["\n{}", "{}\n", " {}", "{} ", "{}\n\n", "wide", "line"])
    if way in ["wide", "line"]:
        return text.replace(" ", "  " if way == "wide" else "\n", 1)
    return way.format(text)


def changed(chance, text):
    """Return a text with one or two small changes."""
    for _ in range(chance.choice([1, 1, 2])):
        way = chance.choice([changed_words, changed_number, changed_number, changed_sign, changed_lines, changed_ends])
        text = way(chance, text)
    return text


COMMANDS = {"new": 1, "lot": 4, "order": 4, "cancel": 1, "less": 2, "change": 4, "recall": 1, "close": 0, "undo": 0,
            "redo": 0, "room": 2, "stairs": 2, "offer": 3, "longest": 2, "plan": 0, "save": 0}
COMMAND = re.compile(f"([a-z]+)((?: {NUMBER})*)")


def plain_command(command):
    """Return the word and the numbers of a command, or None for any other value."""
    told = COMMAND.fullmatch(command) if isinstance(command, str) else None
    if told is None:
        return None
    word, numbers = told[1], [int(number) for number in told[2].split()]
    if len(numbers) != COMMANDS.get(word, -1):
        return None
    if word in ["new", "offer", "longest"] and numbers[0] > DAY:
        return None
    if word in ["offer", "longest"] and not 1 <= numbers[-1] <= MANY:
        return None
    return word, numbers


def listed(parts):
    """Return the text of some parts."""
    return ", ".join(" ".join(str(word) for word in part) for part in parts)


class PlainConsole:
    """A plain model of a console: it gives the text, or the name of the error and the value that the error keeps."""

    CALLS = {"lot": "add_lot", "order": "accept", "cancel": "cancel", "less": "lessen", "change": "change_lot",
             "recall": "recall", "close": "close_day", "undo": "undo", "redo": "redo"}

    def __init__(self):
        self.house = PlainHouse()

    def __call__(self, command):
        told = plain_command(command)
        if told is None:
            return ["BadCommand", command]
        word, numbers = told
        if word in self.CALLS:
            return self.change(word, getattr(self.house, self.CALLS[word])(*numbers))
        if word == "new":
            self.house = PlainHouse()
            self.house.today = numbers[0]
            return "ok"
        return self.ask(word, numbers)

    def change(self, word, found):
        if not found:
            return "ok"
        if isinstance(found[0], str):
            return found
        if word == "close":
            return "ok " + listed(found)
        return "ok " + listed((cut[0], cut[1], "->", cut[2]) for cut in found)

    def ask(self, word, numbers):
        today, lots, orders = self.house.today, self.house.lots, self.house.orders
        if word == "save":
            return plain_text(today, lots, orders)
        if word == "plan":
            return listed(plain_plan(lots, orders)) or "none"
        if word in ["room", "stairs"]:
            found = self.house.room(*numbers)
            if isinstance(found, list) or word == "room":
                return found if isinstance(found, list) else str(found)
            return listed(room_stairs(lots, orders, tuple(numbers)).corners)
        last = max([lot[2] for lot in lots], default=-1)
        day, amount = numbers[0], numbers[-1]
        if word == "offer":
            span = numbers[1]
            found = [first for first in range(day, last - span + 1)
                     if plain_room(lots, orders, (first, first + span)) >= amount][:1]
        else:
            found = [keeps for keeps in range(day, last + 1) if plain_room(lots, orders, (day, keeps)) >= amount][-1:]
        return str(found[0]) if found else "none"

"""What holds of houses, texts, consoles, risks and groups together: promises 1, 6, 7, 9 and 12, and 15 to 20."""

import random
import unittest

from freshpromise.console import Console
from freshpromise.errors import NoRoom
from freshpromise.group import Group
from freshpromise.house import House
from freshpromise.plans import is_plan, make_plan
from freshpromise.risks import blockers, burden, is_safe, safe_room, spare, worst_loss
from freshpromise.stairs import Stairs
from freshpromise.sums import least_stairs, room_for, room_stairs, surplus
from freshpromise.texts import house_text, read_house, table
from tests.helpers import pairs_to, some_goods, with_ids
from tests.models import answer, parts

LAST = 6


def drawn_house(chance):
    """Return a house with drawn lots and orders."""
    house = House(today=chance.choice([0, 1]))
    for lot in with_ids(some_goods(chance, chance.randint(1, 6), LAST, 7), chance, 50):
        answer(house.add_lot, *lot)
    for order in with_ids(some_goods(chance, 8, LAST, 4), chance, 50):
        answer(house.accept, *order)
    return house


def lost_in_sum(found):
    """Return the sum of what some cuts take away."""
    return sum(cut[1] - cut[2] for cut in found)


class HouseTest(unittest.TestCase):
    def test_rooms(self):
        chance = random.Random(1)
        for _ in range(60):
            house = drawn_house(chance)
            lots, orders = house.lots, house.orders
            rows = table(house, first=0, days=LAST + 2, spans=3).split("\n")
            cells = [[int(cell) for cell in row.split(":")] for row in rows]
            console = Console()
            for line in house_text(house).split("\n"):
                console(line.replace("house", "new"))
            self.assertEqual(console("save"), house_text(house))
            for day, row in enumerate(cells):
                self.assertEqual(row[0], day)
                for span, room in enumerate(row[1:]):
                    pair = (day, day + span)
                    stairs = room_stairs(lots, orders, pair)
                    self.assertEqual(room, room_for(lots, orders, pair))
                    self.assertEqual(room, safe_room(lots, orders, pair, lost=0))
                    self.assertEqual(room, surplus(lots, orders, stairs))
                    inside = [order[0] for order in orders if order[1:3] in stairs]
                    self.assertEqual(list(blockers(lots, orders, pair)), inside)
                    told = [answer(console, f"{word} {day} {day + span}") for word in ["room", "stairs"]]
                    if day < house.today:
                        self.assertEqual(told, [["BadDay", pair]] * 2)
                    else:
                        self.assertEqual(house.room(*pair), room)
                        self.assertEqual(told, [str(room), stairs.text])
                        self.assertEqual(answer(house.accept, 99, *pair, room + 1), ["NoRoom", stairs])

    def test_risks_are_what_recalling_does(self):
        chance = random.Random(2)
        seen = {True: 0, False: 0}
        for _ in range(150):
            house = drawn_house(chance)
            lots, orders = house.lots, house.orders
            lost = {}
            for lot in lots:
                found = house.cuts_if_recalled(lot[0])
                lost[lot[0]] = lost_in_sum(found)
                self.assertEqual(burden(lots, orders, lot[0]), lost[lot[0]])
            safe = not any(lost.values())
            self.assertIs(is_safe(lots, orders), safe)
            self.assertIs(is_safe(lots, orders, lost=0), True)
            seen[safe] += 1
            idents, stairs = worst_loss(lots, orders)
            if lots:
                worst = min(lost, key=lambda ident: (-lost[ident], ident))
                self.assertEqual(idents, [worst])
                found = house.recall(worst)
                self.assertEqual(surplus(house.lots, orders, stairs), -lost_in_sum(found))
                self.assertTrue(is_plan(house.lots, house.orders, make_plan(house.lots, house.orders)))
        self.assertGreater(min(seen.values()), 10)

    def test_two_lost_ones_after_the_other(self):
        chance = random.Random(3)
        for _ in range(100):
            house = drawn_house(chance)
            lots, orders = house.lots, house.orders
            idents, stairs = worst_loss(lots, orders, lost=2)
            cut = sum(lost_in_sum(house.recall(ident)) for ident in idents)
            self.assertEqual(surplus(house.lots, orders, stairs), -cut)
            self.assertEqual(least_stairs(house.lots, orders), stairs)

    def test_the_spare_can_be_taken_and_no_more(self):
        chance = random.Random(4)
        seen = {}
        for _ in range(150):
            house = drawn_house(chance)
            for lot in house.lots:
                free = spare(house.lots, house.orders, lot[0])
                for amount in range(1, lot[3] + 1):
                    if amount == lot[3]:
                        found = house.cuts_if_recalled(lot[0])
                    else:
                        found = house.cuts_if(*lot[:3], lot[3] - amount)
                    self.assertEqual(lost_in_sum(found), max(0, amount - free))
                key = (free > 0) + (free == lot[3])
                seen[key] = seen.get(key, 0) + 1
        self.assertGreater(min(seen[key] for key in range(3)), 20)

    def test_a_house_that_is_read_goes_on_as_the_other_one(self):
        chance = random.Random(5)
        for _ in range(60):
            house = drawn_house(chance)
            twin = read_house(house_text(house))
            for _ in range(8):
                call = chance.choice(["accept", "recall", "close_day", "cancel", "undo"])
                day = house.today + chance.randint(0, 3)
                values = {"accept": [chance.randint(51, 60), day, day + chance.randint(0, 3), chance.randint(1, 3)],
                          "recall": [chance.choice(house.lots or [(1,)])[0]],
                          "cancel": [chance.choice(house.orders or [(1,)])[0]]}.get(call, [])
                if call == "undo" and answer(twin.undo) is None:
                    house.undo()
                elif call != "undo":
                    self.assertEqual(answer(getattr(house, call), *values), answer(getattr(twin, call), *values))
                self.assertTrue(twin.same(house))

    def test_closing_the_day_and_safe_rooms(self):
        chance = random.Random(6)
        for _ in range(100):
            house = drawn_house(chance)
            later = [pair for pair in pairs_to(LAST + 1) if pair[0] > house.today]
            before = [house.room(*pair) for pair in later]
            house.close_day()
            self.assertEqual([safe_room(house.lots, house.orders, pair, lost=0) for pair in later], before)


class LaterTest(unittest.TestCase):
    def test_all_days_later_and_all_amounts_multiplied(self):
        chance = random.Random(7)
        for _ in range(100):
            lots = with_ids(some_goods(chance, chance.randint(1, 6), LAST, 5), chance, 50)
            orders = with_ids(some_goods(chance, chance.randint(0, 6), LAST, 4), chance, 50)
            by, times, lost = chance.choice([1, 10 ** 6 - LAST - 2]), chance.choice([1, 10 ** 8]), chance.randint(0, 3)
            lots_then, orders_then = [
                [(one[0], one[1] + by, one[2] + by, one[3] * times) for one in goods] for goods in [lots, orders]]
            day, keeps = pair = chance.choice(pairs_to(LAST + 1))
            then = (day + by, keeps + by)
            self.assertEqual(safe_room(lots_then, orders_then, then, lost=lost),
                             safe_room(lots, orders, pair, lost=lost) * times)
            self.assertIs(is_safe(lots_then, orders_then, lost=lost), is_safe(lots, orders, lost=lost))
            idents, stairs = worst_loss(lots, orders, lost=lost)
            corners = [(first + by, second + by) for first, second in stairs.corners]
            self.assertEqual(worst_loss(lots_then, orders_then, lost=lost), (idents, Stairs(*corners)))
            self.assertEqual(list(blockers(lots_then, orders_then, then)), list(blockers(lots, orders, pair)))
            for lot in lots:
                self.assertEqual(burden(lots_then, orders_then, lot[0]), burden(lots, orders, lot[0]) * times)
                self.assertEqual(spare(lots_then, orders_then, lot[0]), spare(lots, orders, lot[0]) * times)


class Ledger:
    """What each house of a group has promised, told by what the calls return alone, and with its own history."""

    def __init__(self, names):
        self.promised = {name: {} for name in names}
        self.done = {name: [] for name in names}
        self.undone = {name: [] for name in names}

    def change(self, name, changes):
        self.done[name].append(self.promised[name])
        self.undone[name] = []
        both = {**self.promised[name], **changes}
        self.promised[name] = {order: both[order] for order in both if both[order]}

    def undo(self, name):
        self.undone[name].append(self.promised[name])
        self.promised[name] = self.done[name].pop()

    def redo(self, name):
        self.done[name].append(self.promised[name])
        self.promised[name] = self.undone[name].pop()


class PromiseTest(unittest.TestCase):
    """An order that was accepted is delivered on its day with all of its amount, unless it is cancelled, less or cut."""

    NAMES = ["a", "b"]
    CALLS = ["add_lot"] * 4 + ["accept"] * 6 + ["anywhere"] * 3 + ["send"] * 4 + [
        "change_lot", "recall", "cancel", "lessen", "close_day", "close_day", "undo", "undo", "redo", "redo"]

    def test_what_is_promised_is_delivered(self):
        chance = random.Random(8)
        self.delivered = self.cut = self.sent = 0
        for _ in range(100):
            group, ledger = Group(), Ledger(self.NAMES)
            for name in self.NAMES:
                group.open_house(name)
            for _ in range(150):
                self.step(chance, group, ledger, chance.choice(self.NAMES))
                for name in self.NAMES:
                    house = group.house(name)
                    self.assertEqual({order[0]: order[3] for order in house.orders}, ledger.promised[name])
                    self.assertTrue(is_plan(house.lots, house.orders, make_plan(house.lots, house.orders)))
                    self.assertEqual(parts(read_house(house_text(house))), parts(house))
        self.assertGreater(min(self.delivered, self.cut, self.sent), 50)

    def step(self, chance, group, ledger, name):
        """Make a drawn call of a group or a house and note what it promises."""
        house, call = group.house(name), chance.choice(self.CALLS)
        ident, amount, day = chance.randint(1, 7), chance.randint(1, 6), house.today + chance.randint(0, 3)
        goods = (ident, day, day + chance.randint(0, 4), amount)
        if call == "send":
            other = "b" if name == "a" else "a"
            found = answer(group.send, name, other, ident, amount, days=chance.randint(0, 1),
                           new_id=chance.randint(1, 9))
            if isinstance(found, tuple):
                self.sent += 1
                ledger.change(name, {})
                ledger.change(other, {})
        elif call == "anywhere":
            found = answer(group.accept, *goods)
            if isinstance(found, str):
                ledger.change(found, {ident: amount})
        elif call == "close_day":
            self.close_day(house, ledger, name)
        else:
            values = {"recall": [ident], "cancel": [ident], "lessen": [ident, amount], "undo": [], "redo": []}
            found = answer(getattr(house, call), *values.get(call, goods))
            if call in ["undo", "redo"] and found is None:
                getattr(ledger, call)(name)
            elif call in ["change_lot", "recall"] and not (found and isinstance(found[0], str)):
                self.cut += len(found)
                for order, old, kept, _ in found:
                    self.assertEqual(ledger.promised[name][order], old)
                    self.assertLess(kept, old)
                ledger.change(name, {cut[0]: cut[2] for cut in found})
            elif found is None:
                ledger.change(name, {"accept": {ident: amount}, "cancel": {ident: 0},
                                     "lessen": {ident: amount}}.get(call, {}))

    def close_day(self, house, ledger, name):
        today, stock = house.today, {lot[0]: lot for lot in house.lots}
        due = {order[0]: order for order in house.orders if order[1] == today}
        got = {}
        for order, lot, many in house.close_day():
            self.delivered += 1
            self.assertTrue(stock[lot][1] <= today and stock[lot][2] >= due[order][2])
            got[order] = got.get(order, 0) + many
        self.assertEqual(got, {ident: ledger.promised[name][ident] for ident in due})
        ledger.change(name, dict.fromkeys(due, 0))


class GroupTest(unittest.TestCase):
    def test_sending_leaves_the_rooms_of_later_pairs_enough(self):
        chance = random.Random(9)
        for _ in range(60):
            group = Group()
            group.open_house("a")
            group.open_house("b", today=1)
            for lot in some_goods(chance, 5, LAST, 7):
                group.house("a").add_lot(*lot)
            for order in some_goods(chance, 6, LAST, 4):
                answer(group.accept, *order)
            house = group.house("a")
            for lot in house.lots:
                free = spare(house.lots, house.orders, lot[0])
                if free and lot[2] >= 1 and max(lot[1], house.today) + 1 <= lot[2]:
                    before = house.orders
                    self.assertEqual(group.send("a", "b", lot[0], free, days=1, new_id=lot[0] + 10),
                                     (lot[0] + 10, max(lot[1], house.today) + 1, lot[2], free))
                    self.assertEqual(house.orders, before)
                    if free < lot[3]:
                        self.assertEqual(spare(house.lots, house.orders, lot[0]), 0)
                    with self.assertRaises(NoRoom):
                        group.accept(99, LAST + 2, LAST + 2, 1)

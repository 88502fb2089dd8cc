"""Promise 20: groups of houses, goods that are sent, and orders that are accepted anywhere."""

import random
import unittest

from freshpromise.errors import BadDay, UnknownName
from freshpromise.group import Group
from freshpromise.house import House
from freshpromise.plans import is_plan, make_plan
from freshpromise.risks import spare
from freshpromise.stairs import Stairs
from freshpromise.sums import room_stairs
from tests.helpers import ODD_VALUES, full_house, quickest, some_goods
from tests.models import PlainGroup, answer, history, parts

DAY, MANY = 10 ** 6, 10 ** 9
NO_NAMES = [*ODD_VALUES, "A", "aB", "a1", "a b", "a-b", "a_b", " a", "a ", "a\n", "\na", "abcdefghi",
            "a" * 9, "a" * 1000, "\u00e9", "\u0430", 0, 7, ["a"], ("a",), {"a": 1}, b"a"]


def some_group():
    """Return a group of three houses with changes to undo and to redo."""
    group = Group()
    group.open_house("north", today=2)
    group.open_house("south")
    group.open_house("east", today=3)
    north, south = group.house("north"), group.house("south")
    north.add_lot(1, 4, 9, 10)
    north.add_lot(2, 0, 6, 8)
    north.accept(7, 4, 6, 5)
    north.accept(8, 5, 9, 4)
    north.cancel(8)
    north.undo()
    south.add_lot(1, 0, 4, 3)
    south.accept(7, 0, 4, 2)
    south.accept(9, 0, 4, 1)
    south.undo()
    return group


NORTH = (2, [(1, 4, 9, 10), (2, 0, 6, 8)], [(7, 4, 6, 5), (8, 5, 9, 4)])
SOUTH = (0, [(1, 0, 4, 3)], [(7, 0, 4, 2)])
EAST = (3, [], [])


def histories(group):
    """Return the names of the houses, each with its history."""
    return [(name, history(group.house(name))) for name in group.names]


class GroupTest(unittest.TestCase):
    def check_error(self, group, error, kept, call, /, *values, **named):
        """Check the error of a call, the very value that it keeps, and that nothing is changed."""
        before = histories(group)
        with self.subTest(call=call, values=values, named=named):
            self.assertEqual(answer(getattr(group, call), *values, **named), [error, kept])
            self.assertEqual(histories(group), before)

    def check_houses(self, group, north=NORTH, south=SOUTH, east=EAST):
        found = [parts(group.house(name)) for name in ["north", "south", "east"]]
        self.assertEqual(found, [north, south, east])


class HousesTest(GroupTest):
    def test_a_group_without_houses(self):
        group = Group()
        self.assertEqual(group.names, [])
        self.check_error(group, "UnknownName", "a", "house", "a")
        self.check_error(group, "NoRoom", Stairs(), "accept", 1, 0, 0, 1)
        self.assertEqual(list(group.find(1)), [])
        self.assertRaises(TypeError, Group, 1)

    def test_open_houses(self):
        group = Group()
        self.assertIsNone(group.open_house("b"))
        self.assertIsNone(group.open_house("abcdefgh", today=7))
        self.assertIsNone(group.open_house(today=DAY, name="z"))
        self.assertIsNone(group.open_house("a", today=0))
        self.assertEqual(group.names, ["a", "abcdefgh", "b", "z"])
        self.assertEqual([group.house(name).today for name in group.names], [0, 7, 0, DAY])
        for name in group.names:
            house = group.house(name)
            self.assertIsInstance(house, House)
            self.assertEqual(history(house), [[(house.today, [], [])], [], []])
        self.assertRaises(TypeError, group.open_house, "c", 3)

    def test_every_letter(self):
        group = Group()
        for letter in "abcdefghijklmnopqrstuvwxyz":
            group.open_house(letter)
            group.open_house(letter * 8)
        self.assertEqual(len(group.names), 52)

    def test_wrong_names(self):
        for value in NO_NAMES:
            group = some_group()
            for today in [0, -1, None]:
                self.check_error(group, "UnknownName", value, "open_house", value, today=today)
            with self.assertRaises(UnknownName) as caught:
                group.open_house(value)
            self.assertIs(caught.exception.name, value)

    def test_taken_names(self):
        self.check_error(some_group(), "TakenName", "north", "open_house", "north")
        self.check_error(some_group(), "TakenName", "north", "open_house", name="north", today=-1)

    def test_wrong_days(self):
        for value in [*ODD_VALUES, -1, DAY + 1, 10 ** 59, -10 ** 59]:
            group = some_group()
            self.check_error(group, "BadDay", value, "open_house", "west", today=value)
            with self.assertRaises(BadDay) as caught:
                group.open_house("west", today=value)
            self.assertIs(caught.exception.value, value)
            group.open_house("west", today=1)

    def test_the_house_itself(self):
        group = some_group()
        self.check_houses(group)
        self.assertIs(group.house("north"), group.house(name="north"))
        self.assertIsNot(group.house("north"), group.house("south"))
        group.house("east").add_lot(5, 0, 9, 1)
        self.assertEqual(group.house("east").lots, [(5, 0, 9, 1)])
        group.house("north").close_day()
        self.assertEqual([group.house(name).today for name in group.names], [3, 3, 0])

    def test_unknown_names(self):
        group = some_group()
        for value in [*NO_NAMES, "west", "nort", "norths"]:
            self.check_error(group, "UnknownName", value, "house", value)
            with self.assertRaises(UnknownName) as caught:
                group.house(value)
            self.assertIs(caught.exception.name, value)

    def test_names(self):
        group = some_group()
        self.assertEqual(group.names, ["east", "north", "south"])
        self.assertIsInstance(group.names, list)
        group.names.clear()
        group.names.append("west")
        self.assertEqual(group.names, ["east", "north", "south"])
        self.assertRaises(AttributeError, setattr, group, "names", [])

    def test_groups_are_apart(self):
        first, second = some_group(), some_group()
        first.open_house("west")
        first.house("north").recall(1)
        self.assertEqual(second.names, ["east", "north", "south"])
        self.check_houses(second)


class SendTest(GroupTest):
    def test_a_part_of_a_lot(self):
        group = some_group()
        self.assertEqual(group.send("north", "south", 1, 4, days=2, new_id=3), (3, 6, 9, 4))
        self.check_houses(group, (2, [(1, 4, 9, 6), (2, 0, 6, 8)], NORTH[2]), (0, [*SOUTH[1], (3, 6, 9, 4)], SOUTH[2]))

    def test_by_name(self):
        group = some_group()
        sent = group.send(new_id=3, days=2, amount=4, ident=1, target="south", source="north")
        self.assertEqual(sent, (3, 6, 9, 4))
        self.assertIsInstance(sent, tuple)
        self.assertRaises(TypeError, group.send, "north", "south", 1, 4, 2, 3)

    def test_the_day_on_which_it_is_there(self):
        for source, ident, days, day in [("north", 1, 0, 4), ("north", 1, 1, 5), ("north", 1, 5, 9), ("north", 2, 0, 2),
                                         ("north", 2, 1, 3), ("north", 2, 4, 6), ("south", 1, 0, 0), ("south", 1, 4, 4)]:
            group = some_group()
            keeps = group.house(source).lot(ident)[2]
            self.assertEqual(group.send(source, "east", ident, 1, days=days, new_id=1), (1, day, keeps, 1))
            self.assertEqual(group.house("east").lots, [(1, day, keeps, 1)])
        # The other house's today does not count.
        group = some_group()
        group.house("north").add_lot(3, 2, 9, 1)
        self.assertEqual(group.send("north", "east", 3, 1, days=0, new_id=1), (1, 2, 9, 1))

    def test_a_way_that_is_too_long(self):
        group = some_group()
        for ident, days, day, keeps in [(1, 6, 10, 9), (2, 5, 7, 6), (1, DAY, DAY + 4, 9), (2, 10 ** 59, 10 ** 59 + 2, 6)]:
            self.check_error(group, "BadGoods", (5, day, keeps, 1), "send", "north", "south", ident, 1, days=days, new_id=5)

    def test_what_keeps_less_long_than_the_other_today(self):
        group = some_group()
        for _ in range(4):
            group.house("east").close_day()
        self.check_error(group, "BadGoods", (5, 2, 6, 1), "send", "north", "east", 2, 1, days=0, new_id=5)
        self.assertEqual(group.send("north", "east", 1, 1, days=0, new_id=5), (5, 4, 9, 1))
        group = some_group()
        for _ in range(3):
            group.house("east").close_day()
        self.assertEqual(group.send("north", "east", 2, 1, days=0, new_id=5), (5, 2, 6, 1))

    def test_all_of_a_lot(self):
        group = some_group()
        group.house("north").cancel(8)
        before = history(group.house("north"))
        self.assertEqual(group.send("north", "east", 1, 10, days=0, new_id=1), (1, 4, 9, 10))
        self.check_houses(group, (2, [(2, 0, 6, 8)], NORTH[2][:1]), east=(3, [(1, 4, 9, 10)], []))
        group.house("north").undo()
        self.assertEqual(history(group.house("north"))[:2], before[:2])

    def test_all_of_the_spare(self):
        group = some_group()
        north = group.house("north")
        self.assertEqual([spare(north.lots, north.orders, ident) for ident in [1, 2]], [6, 8])
        self.check_error(group, "BadGoods", 7, "send", "north", "east", 1, 7, days=0, new_id=1)
        self.check_error(group, "BadGoods", 9, "send", "north", "east", 2, 9, days=0, new_id=1)
        group.send("north", "east", 1, 6, days=0, new_id=1)
        self.assertEqual(parts(north), (2, [(1, 4, 9, 4), (2, 0, 6, 8)], NORTH[2]))
        self.check_error(group, "BadGoods", 1, "send", "north", "east", 1, 1, days=0, new_id=2)
        group.send("north", "east", 2, 3, days=0, new_id=2)
        self.check_error(group, "BadGoods", 1, "send", "north", "east", 2, 1, days=0, new_id=3)
        self.assertEqual(group.house("east").lots, [(1, 4, 9, 6), (2, 2, 6, 3)])

    def test_every_amount(self):
        for ident, free in [(1, 6), (2, 8)]:
            for amount in range(1, 12):
                group = some_group()
                if amount > free:
                    self.check_error(group, "BadGoods", amount, "send", "north", "east", ident, amount, days=1, new_id=1)
                    continue
                group.send("north", "east", ident, amount, days=1, new_id=1)
                north = group.house("north")
                self.assertTrue(is_plan(north.lots, north.orders, make_plan(north.lots, north.orders)))
                self.assertEqual(north.orders, NORTH[2])
                left = [lot[3] for lot in north.lots if lot[0] == ident]
                self.assertEqual(sum(left) + amount, 10 if ident == 1 else 8)

    def test_wrong_amounts(self):
        for amount in [*ODD_VALUES, 0, -1, 7, 10, 11, MANY, MANY + 1, 10 ** 59, -10 ** 59]:
            group = some_group()
            self.check_error(group, "BadGoods", amount, "send", "north", "east", 1, amount, days=0, new_id=1)
        value = [1]
        self.assertIs(answer(some_group().send, "north", "east", 1, value, days=0, new_id=1)[1], value)

    def test_unknown_names(self):
        group = some_group()
        for value in [*NO_NAMES, "west"]:
            self.check_error(group, "UnknownName", value, "send", value, "east", 1, 1, days=0, new_id=1)
            self.check_error(group, "UnknownName", value, "send", "north", value, 1, 1, days=0, new_id=1)
            self.check_error(group, "UnknownName", value, "send", value, "no", None, 0, days=0, new_id=None)
            self.check_error(group, "UnknownName", value, "send", "north", value, None, 0, days=0, new_id=None)
            self.assertIs(answer(group.send, "north", value, 1, 1, days=0, new_id=1)[1], value)

    def test_unknown_ids(self):
        group = some_group()
        for value in [*ODD_VALUES, 0, -1, 3, 7, 8, 10 ** 59]:
            self.check_error(group, "UnknownId", value, "send", "north", "east", value, 1, days=0, new_id=1)
            self.check_error(group, "UnknownId", value, "send", "north", "south", value, 0, days=99, new_id=1)
            self.assertIs(answer(group.send, "north", "east", value, 1, days=0, new_id=1)[1], value)
        self.check_error(group, "UnknownId", 1, "send", "east", "north", 1, 1, days=0, new_id=3)

    def test_wrong_new_ids(self):
        group = some_group()
        for value in [*ODD_VALUES, 0, -1, 10 ** 6 + 1, 10 ** 59]:
            self.check_error(group, "BadGoods", (value, 4, 9, 2), "send", "north", "south", 1, 2, days=0, new_id=value)
        self.check_error(group, "TakenId", 1, "send", "north", "south", 1, 2, days=0, new_id=1)
        self.check_error(group, "TakenId", 2, "send", "south", "north", 1, 1, days=0, new_id=2)
        self.assertEqual(group.send("north", "south", 1, 2, days=0, new_id=10 ** 6), (10 ** 6, 4, 9, 2))
        self.assertEqual(group.send("north", "south", 1, 2, days=0, new_id=7), (7, 4, 9, 2))

    def test_a_hundred_lots_and_one_more(self):
        group = some_group()
        for ident in range(100):
            group.house("east").add_lot(ident + 1, 0, 9, 5)
        self.check_error(group, "TooMany", 101, "send", "north", "east", 1, 2, days=0, new_id=101)
        self.check_error(group, "TakenId", 100, "send", "north", "east", 1, 2, days=0, new_id=100)
        self.check_error(group, "BadGoods", (101, 10, 9, 2), "send", "north", "east", 1, 2, days=6, new_id=101)
        self.assertEqual(group.send("east", "north", 7, 5, days=0, new_id=101), (101, 3, 9, 5))
        self.assertEqual(group.send("north", "east", 1, 2, days=0, new_id=101), (101, 4, 9, 2))

    def test_the_first_error(self):
        group = some_group()
        group.house("south").add_lot(3, 0, 9, 5)
        for name, kept, source, target, ident, amount, days, new_id in [
                ("UnknownName", "x", "x", "y", 9, 0, 99, 0), ("UnknownName", "y", "north", "y", 9, 0, 99, 0),
                ("UnknownId", 9, "north", "south", 9, 0, 99, 0), ("BadGoods", 0, "north", "south", 1, 0, 99, 0),
                ("BadGoods", 7, "north", "south", 1, 7, 99, 0), ("BadGoods", 7, "north", "south", 1, 7, 0, 3),
                ("BadGoods", (3, 10, 9, 1), "north", "south", 1, 1, 6, 3), ("TakenId", 3, "north", "south", 1, 1, 5, 3)]:
            self.check_error(group, name, kept, "send", source, target, ident, amount, days=days, new_id=new_id)

    def test_undo_in_one_and_in_both(self):
        group = some_group()
        north, south = group.house("north"), group.house("south")
        before = [history(house) for house in [north, south]]
        group.send("north", "south", 1, 4, days=2, new_id=3)
        behind = [parts(house) for house in [north, south]]
        for at, house in enumerate([north, south]):
            self.assertEqual(history(house), [[behind[at]], [before[at][0][0], *before[at][1]], []])
        north.undo()
        self.check_houses(group, south=behind[1])
        north.redo()
        south.undo()
        self.check_houses(group, north=behind[0])
        north.undo()
        self.check_houses(group)
        for at, house in enumerate([north, south]):
            self.assertEqual(history(house), [before[at][0], before[at][1], [behind[at]]])
            house.redo()
        self.check_houses(group, *behind)

    def test_back_and_forth(self):
        group = some_group()
        group.send("north", "south", 1, 4, days=0, new_id=3)
        self.assertEqual(group.send("south", "north", 3, 4, days=0, new_id=3), (3, 4, 9, 4))
        self.check_houses(group, (2, [(1, 4, 9, 6), (2, 0, 6, 8), (3, 4, 9, 4)], NORTH[2]))

    def test_the_lists_are_not_shared(self):
        group = some_group()
        lots = group.house("south").lots
        group.send("north", "south", 1, 4, days=2, new_id=3)
        self.assertEqual(lots, SOUTH[1])


class AcceptTest(GroupTest):
    def test_the_first_house_with_room(self):
        group = some_group()
        self.assertEqual(group.accept(5, 4, 9, 6), "north")
        self.check_houses(group, (*NORTH[:2], [*NORTH[2], (5, 4, 9, 6)]))
        group.house("east").add_lot(1, 3, 9, 2)
        self.assertEqual(group.accept(amount=1, keeps=9, day=4, ident=6), "east")
        self.assertEqual(group.accept(4, 3, 6, 1), "east")
        self.assertEqual(group.accept(10, 3, 6, 1), "north")
        self.assertEqual(group.accept(11, 0, 3, 1), "south")
        self.assertEqual(group.house("south").orders, [*SOUTH[2], (11, 0, 3, 1)])

    def test_it_can_be_undone(self):
        group = some_group()
        before = histories(group)
        group.accept(5, 4, 9, 6)
        group.house("north").undo()
        self.check_houses(group)
        self.assertEqual([entry[1][:2] for entry in histories(group)], [entry[1][:2] for entry in before])
        self.assertEqual([entry for entry in histories(group) if entry[0] != "north"],
                         [entry for entry in before if entry[0] != "north"])

    def test_wrong_orders(self):
        group = some_group()
        for values in [(4, 5, 4, 1), (4, 3, DAY + 1, 1), (4, -1, 5, 1), (0, 3, 5, 1), (10 ** 6 + 1, 3, 5, 1),
                       (4, 3, 5, 0), (4, 3, 5, MANY + 1), (7, 5, 4, 1)]:
            self.check_error(group, "BadGoods", values, "accept", *values)
        for at in range(4):
            for value in [*ODD_VALUES, -1, 10 ** 59, -10 ** 59]:
                values = (*(4, 3, 5, 5)[:at], value, *(4, 3, 5, 5)[at + 1:])
                self.check_error(group, "BadGoods", values, "accept", *values)
                self.check_error(Group(), "BadGoods", values, "accept", *values)

    def test_no_room(self):
        group = some_group()
        for order in [(5, 4, 9, 7), (5, 4, 7, 7), (5, 8, 10, 1), (5, DAY, DAY, MANY)]:
            self.check_error(group, "NoRoom", Stairs(order[1:3]), "accept", *order)
        for name, order in [("east", (5, 5, 6, 30)), ("north", (5, 2, 4, 30)), ("south", (5, 1, 4, 30))]:
            house = group.house(name)
            stairs = room_stairs(house.lots, house.orders, order[1:3])
            self.check_error(group, "NoRoom", stairs, "accept", *order)

    def shown_group(self, **days):
        """Return a group of houses without room for (2, 3), each with another staircase that shows it."""
        group = Group()
        for name in ["c", "a", "b"]:
            group.open_house(name, today=days.get(name, 0))
        for name, pair in [("a", (1, 2)), ("b", (3, 5))]:
            if name not in days:
                group.house(name).add_lot(1, 0, 5, 200)
                group.house(name).accept(1, *pair, 200)
        return group

    def test_the_staircase_of_the_first_house_not_passed_over(self):
        shown = {"a": Stairs((1, 2), (2, 3)), "b": Stairs((2, 3), (3, 5)), "c": Stairs((2, 3))}
        self.check_error(self.shown_group(), "NoRoom", shown["a"], "accept", 9, 2, 3, 1)
        # The day is too early for a, for b, for both, for all.
        self.check_error(self.shown_group(a=3), "NoRoom", shown["b"], "accept", 9, 2, 3, 1)
        self.check_error(self.shown_group(b=3), "NoRoom", shown["a"], "accept", 9, 2, 3, 1)
        self.check_error(self.shown_group(a=3, b=3), "NoRoom", shown["c"], "accept", 9, 2, 3, 1)
        self.check_error(self.shown_group(a=3, b=3, c=3), "NoRoom", Stairs(), "accept", 9, 2, 3, 1)
        # The id is taken in a and in b.
        self.check_error(self.shown_group(), "NoRoom", shown["c"], "accept", 1, 2, 3, 1)
        self.check_error(self.shown_group(c=3), "NoRoom", Stairs(), "accept", 1, 2, 3, 1)
        # There are too many orders in a.
        group = self.shown_group()
        group.house("a").lessen(1, 101)
        for ident in range(2, 101):
            group.house("a").accept(ident, 1, 2, 1)
        self.check_error(group, "NoRoom", shown["b"], "accept", 999, 2, 3, 1)
        self.check_error(group, "NoRoom", shown["b"], "accept", 100, 2, 3, 1)

    def test_houses_that_are_passed_over(self):
        group = some_group()
        east, north = group.house("east"), group.house("north")
        east.add_lot(1, 0, 9, 100)
        # The day is too early.
        self.assertEqual(group.accept(5, 2, 6, 1), "north")
        # The id is taken.
        self.assertEqual(group.accept(5, 4, 6, 1), "east")
        self.assertEqual(group.accept(7, 4, 6, 1), "east")
        # There are too many orders.
        for ident in range(200, 298):
            east.accept(ident, 5, 6, 1)
        self.assertEqual(len(east.orders), 100)
        self.assertEqual(group.accept(6, 4, 6, 1), "north")
        self.assertEqual(north.orders[-1], (6, 4, 6, 1))

    def test_all_passed_over(self):
        group = some_group()
        east = group.house("east")
        east.add_lot(1, 0, 9, 200)
        east.accept(7, 3, 3, 1)
        self.check_error(group, "NoRoom", Stairs(), "accept", 7, 4, 6, 1)
        group.house("south").close_day()
        self.check_error(group, "NoRoom", Stairs(), "accept", 5, 0, 6, 1)
        for ident in range(300, 399):
            east.accept(ident, 5, 6, 1)
        self.assertEqual(len(east.orders), 100)
        # Too many orders, the id is taken, and the day is too early.
        group.house("north").cancel(7)
        group.house("south").accept(8, 1, 1, 1)
        self.check_error(group, "NoRoom", Stairs(), "accept", 8, 4, 6, 1)
        self.check_error(group, "NoRoom", Stairs(), "accept", 8, 0, 6, MANY)

    def test_a_house_without_orders_is_asked_as_well(self):
        group = Group()
        group.open_house("a")
        group.open_house("b")
        group.house("b").add_lot(1, 0, 5, 1)
        self.assertEqual(group.accept(1, 0, 5, 1), "b")
        self.check_error(group, "NoRoom", Stairs((0, 5)), "accept", 2, 0, 5, 1)


class FindTest(GroupTest):
    def test_find(self):
        group = some_group()
        self.assertEqual(list(group.find(7)), [("north", (7, 4, 6, 5)), ("south", (7, 0, 4, 2))])
        self.assertEqual(list(group.find(ident=8)), [("north", (8, 5, 9, 4))])
        group.house("east").add_lot(7, 0, 9, 9)
        self.assertEqual([name for name, _ in group.find(7)], ["north", "south"])
        group.house("east").accept(7, 3, 9, 9)
        self.assertEqual([name for name, _ in group.find(7)], ["east", "north", "south"])

    def test_ids_that_no_house_has(self):
        group = some_group()
        group.house("south").accept(1, 0, 4, 1)
        self.assertEqual(list(group.find(1)), [("south", (1, 0, 4, 1))])
        for value in [*ODD_VALUES, 0, -1, 2, 3, 9, 10 ** 6 + 1, 10 ** 59]:
            self.assertEqual(list(group.find(value)), [])

    def test_it_yields(self):
        found = some_group().find(7)
        self.assertIs(iter(found), found)
        self.assertEqual(next(found), ("north", (7, 4, 6, 5)))

    def test_nothing_is_changed(self):
        group = some_group()
        before = histories(group)
        list(group.find(7))
        self.assertEqual(histories(group), before)


class SequencesTest(GroupTest):
    NAMES = ["a", "b", "cc"]
    CALLS = ["accept"] * 5 + ["send"] * 7 + ["open_house"]
    HOUSE_CALLS = ["add_lot"] * 4 + ["accept", "undo", "undo", "redo", "redo", "change_lot", "recall", "close_day",
                                     "cancel", "lessen"]

    def drawn_goods(self, chance, today):
        day = max(0, today + chance.randint(-1, 4))
        return [chance.randint(1, 6), day, day + chance.randint(0, 5), chance.randint(0, 8)]

    def drawn_call(self, chance, group):
        """Return a call of a group, or of one of its houses behind its name, with values and named ones."""
        name = chance.choice(group.names)
        today = group.house(name).today
        if chance.random() < 0.5:
            call = chance.choice(self.HOUSE_CALLS)
            values = {"cancel": [chance.randint(1, 6)], "recall": [chance.randint(1, 6)], "undo": [], "redo": [],
                      "lessen": [chance.randint(1, 6), chance.randint(0, 4)], "close_day": []}
            return name, call, values.get(call, self.drawn_goods(chance, today)), {}
        call = chance.choice(self.CALLS)
        if call == "accept":
            return None, call, self.drawn_goods(chance, today), {}
        if call == "open_house":
            return None, call, [chance.choice([*self.NAMES, "A", 1])], {"today": chance.choice([0, 1, -1, None])}
        target = chance.choice([other for other in [*self.NAMES, "x", None] if other != name])
        idents = [lot[0] for lot in group.house(name).lots] or [1]
        ident = chance.choice([*idents, *idents, chance.randint(0, 6)])
        return (None, call, [name, target, ident, chance.randint(0, 6)],
                {"days": chance.randint(0, 3), "new_id": chance.randint(0, 9) or "1"})

    def test_drawn_calls(self):
        chance = random.Random(1)
        seen = {}
        for _ in range(12):
            group, plain = Group(), PlainGroup()
            for one in [group, plain]:
                one.open_house("b", today=1)
            for step in range(300):
                name, call, values, named = self.drawn_call(chance, group)
                both = [group, plain] if name is None else [group.house(name), plain.houses[name]]
                found = answer(getattr(both[0], call), *values, **named)
                with self.subTest(step=step, name=name, call=call, values=values, named=named):
                    self.assertEqual(found, getattr(both[1], call)(*values, **named))
                    self.check_same(group, plain)
                    ident = chance.randint(1, 6)
                    self.assertEqual(list(group.find(ident)), plain.find(ident))
                if name is None:
                    key = (call, found[0] if isinstance(found, list) else type(found).__name__)
                    seen[key] = seen.get(key, 0) + 1
        for key in [("open_house", "NoneType"), ("open_house", "UnknownName"), ("open_house", "TakenName"),
                    ("open_house", "BadDay"), ("accept", "str"), ("accept", "BadGoods"), ("accept", "NoRoom"),
                    ("send", "tuple"), ("send", "UnknownName"), ("send", "UnknownId"), ("send", "BadGoods"),
                    ("send", "TakenId")]:
            self.assertGreater(seen.get(key, 0), 5, key)

    def check_same(self, group, plain):
        """Check that all houses are those of the model, and that their promises can be kept."""
        self.assertEqual(group.names, sorted(plain.houses))
        for name in group.names:
            house = group.house(name)
            self.assertEqual(parts(house), parts(plain.houses[name]))
            self.assertTrue(is_plan(house.lots, house.orders, make_plan(house.lots, house.orders)))

    def test_goods_do_not_get_lost_or_more(self):
        chance = random.Random(2)
        sent = 0
        for _ in range(60):
            group = Group()
            for at, name in enumerate(self.NAMES):
                group.open_house(name, today=at)
                for lot in some_goods(chance, 4, 9, 9):
                    answer(group.house(name).add_lot, *lot)
            for order in some_goods(chance, 9, 9, 4):
                answer(group.accept, *order)
            promised = [group.house(name).orders for name in self.NAMES]
            keeping = self.amounts_by_keeps(group)
            for new_id in range(10, 40):
                source, target = chance.sample(self.NAMES, 2)
                found = answer(group.send, source, target, chance.choice([1, 2, 3, 4, new_id - 1]),
                               chance.randint(1, 5), days=chance.randint(0, 2), new_id=new_id)
                sent += isinstance(found, tuple)
                self.assertEqual(self.amounts_by_keeps(group), keeping)
                self.assertEqual([group.house(name).orders for name in self.NAMES], promised)
        self.assertGreater(sent, 200)

    def amounts_by_keeps(self, group):
        sums = {}
        for name in group.names:
            for lot in group.house(name).lots:
                sums[lot[2]] = sums.get(lot[2], 0) + lot[3]
        return sums


class QuickTest(GroupTest):
    def test_a_hundred_lots_and_orders(self):
        group = Group()
        for at, name in enumerate(["a", "b", "c", "d"]):
            group.open_house(name)
            lots, orders = full_house(at + 1)
            for lot in lots[:99]:
                group.house(name).add_lot(*lot)
            for order in orders[:98]:
                answer(group.house(name).accept, *order)
        lots = [lot for lot in group.house("a").lots
                if spare(group.house("a").lots, group.house("a").orders, lot[0]) >= 3]
        for call in [lambda: group.send("a", "b", lots[0][0], 1, days=0, new_id=500), lambda: list(group.find(50)),
                     lambda: answer(group.accept, 999, 300, 600, MANY), lambda: answer(group.accept, 998, 900, 901, 1)]:
            self.assertLess(quickest(call), 0.5)

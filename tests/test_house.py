"""Promises 10, 11 and 12: a house, its lots and orders, changing and recalling lots, closing the day."""

import unittest

from freshpromise.errors import BadDay
from freshpromise.house import House
from freshpromise.plans import is_plan, make_plan
from freshpromise.stairs import Stairs
from freshpromise.sums import room_for, room_stairs
from tests.helpers import ODD_VALUES, full_house, quickest
from tests.models import answer, history, parts

DAY, MANY = 10 ** 6, 10 ** 9
NO_NUMBERS = [None, True, False, "1", "", (1,), (), [1], [], {}]


def some_house():
    """Return a house of day 2 with changes to undo and to redo."""
    house = House(today=2)
    house.add_lot(5, 0, 9, 22)
    house.add_lot(1, 3, 6, 10)
    house.accept(7, 4, 6, 8)
    house.accept(3, 2, 9, 5)
    house.accept(9, 5, 6, 17)
    house.cancel(7)
    house.undo()
    return house


LOTS = [(1, 3, 6, 10), (5, 0, 9, 22)]
ORDERS = [(7, 4, 6, 8), (3, 2, 9, 5), (9, 5, 6, 17)]


class HouseTest(unittest.TestCase):
    def check_error(self, house, name, kept, call, *values, **named):
        """Check the error of a call, the very value that it keeps, and that nothing is changed."""
        before = history(house)
        with self.subTest(call=call, values=values, named=named):
            self.assertEqual(answer(getattr(house, call), *values, **named), [name, kept])
            self.assertEqual(history(house), before)

    def check_wrong_goods(self, house, call, right, wrong):
        """Check that each of some values raises BadGoods, and nothing else does."""
        for values in wrong:
            self.check_error(house, "BadGoods", values, call, *values)
        for at in range(4):
            for value in [*ODD_VALUES, -1, 10 ** 59, -10 ** 59]:
                values = (*right[:at], value, *right[at + 1:])
                known = call != "change_lot" or at > 0
                self.check_error(house, "BadGoods" if known else "UnknownId", values if known else value, call, *values)


class StartTest(HouseTest):
    def test_the_example_of_the_document(self):
        house = House()
        house.add_lot(1, 0, 5, 10)
        house.accept(7, 2, 4, 6)
        self.assertEqual(house.room(2, 4), 4)

    def test_an_empty_house(self):
        for house, today in [(House(), 0), (House(today=0), 0), (House(today=7), 7), (House(today=DAY), DAY)]:
            self.assertEqual(parts(house), (today, [], []))
            self.assertEqual(history(house), [[parts(house)], [], []])
            self.assertEqual(house.room(today, today), 0)

    def test_wrong_days(self):
        for value in [*ODD_VALUES, -1, DAY + 1, 10 ** 59, -10 ** 59]:
            with self.assertRaises(BadDay) as caught:
                House(today=value)
            self.assertIs(caught.exception.value, value)

    def test_the_day_is_passed_by_name(self):
        self.assertRaises(TypeError, House, 3)

    def test_the_limit(self):
        self.assertEqual([House.LIMIT, House().LIMIT], [100, 100])

    def test_houses_are_apart(self):
        first, second = House(), House()
        first.add_lot(1, 0, 5, 10)
        first.accept(7, 2, 4, 6)
        self.assertEqual(history(second), [[(0, [], [])], [], []])


class PartsTest(HouseTest):
    def test_the_sequences(self):
        self.assertEqual(parts(some_house()), (2, LOTS, ORDERS))

    def test_lists_are_the_callers(self):
        house = some_house()
        before = history(house)
        for _ in range(2):
            house.lots.append((2, 3, 4, 5))
            house.lots.clear()
            house.orders.reverse()
            house.orders.clear()
            self.assertEqual(history(house), before)

    def test_one_of_them(self):
        house = some_house()
        self.assertEqual([house.lot(1), house.lot(5), house.lot(ident=5)], [LOTS[0], LOTS[1], LOTS[1]])
        self.assertEqual([house.order(7), house.order(9), house.order(ident=3)], [ORDERS[0], ORDERS[2], ORDERS[1]])

    def test_unknown_ids(self):
        house = some_house()
        for ident in [*ODD_VALUES, 0, -1, 2, 3, 7, 10 ** 6 + 1, 10 ** 59]:
            self.check_error(house, "UnknownId", ident, "lot", ident)
        for ident in [*ODD_VALUES, 0, -1, 1, 5, 10 ** 6 + 1, 10 ** 59]:
            self.check_error(house, "UnknownId", ident, "order", ident)
        self.check_error(House(), "UnknownId", 1, "lot", 1)
        self.check_error(House(), "UnknownId", 1, "order", ident=1)

    def test_properties_are_not_assigned(self):
        house = some_house()
        for name in ["today", "lots", "orders"]:
            self.assertRaises(AttributeError, setattr, house, name, 1)


class RoomTest(HouseTest):
    def test_the_room_for_a_pair(self):
        house = some_house()
        for day in range(2, 9):
            for keeps in range(day, 12):
                self.assertEqual(house.room(day, keeps), room_for(LOTS, ORDERS, (day, keeps)))
        self.assertEqual(house.room(keeps=9, day=2), 2)
        self.assertEqual(house.room(DAY, DAY), 0)

    def test_wrong_days(self):
        house = some_house()
        for pair in [(1, 5), (0, 5), (1, 1), (0, 0), (-1, 5), (5, 4), (3, 2), (DAY, DAY + 1), (DAY + 1, DAY + 1),
                     (2, -1), (2, 10 ** 59)]:
            self.check_error(house, "BadDay", pair, "room", *pair)
        for value in NO_NUMBERS:
            self.check_error(house, "BadDay", (value, 5), "room", value, 5)
            self.check_error(house, "BadDay", (3, value), "room", keeps=value, day=3)

    def test_nothing_is_changed(self):
        house = some_house()
        before = history(house)
        house.room(3, 5)
        house.lot(1)
        house.order(7)
        self.assertEqual(history(house), before)


class AddLotTest(HouseTest):
    def test_lots(self):
        house = House(today=3)
        self.assertIsNone(house.add_lot(9, 3, 3, 1))
        self.assertIsNone(house.add_lot(4, DAY, DAY, MANY))
        self.assertIsNone(house.add_lot(keeps=5, ident=10 ** 6, amount=7, day=0))
        self.assertIsNone(house.add_lot(1, 3, 3, 1))
        lots = [(1, 3, 3, 1), (4, DAY, DAY, MANY), (9, 3, 3, 1), (10 ** 6, 0, 5, 7)]
        self.assertEqual(parts(house), (3, lots, []))

    def test_wrong_lots(self):
        wrong = [(4, 0, 1, 5), (4, 1, 1, 5), (4, 5, 4, 5), (4, 3, DAY + 1, 5), (4, -1, 5, 5), (0, 3, 5, 5),
                 (10 ** 6 + 1, 3, 5, 5), (4, 3, 5, 0), (4, 3, 5, MANY + 1), (4, 3, 5, -1), (4, DAY + 1, DAY + 1, 5)]
        self.check_wrong_goods(some_house(), "add_lot", (4, 3, 5, 5), wrong)
        self.check_error(some_house(), "BadGoods", (4, 0, 1, 5), "add_lot", amount=5, keeps=1, day=0, ident=4)

    def test_taken_ids(self):
        self.check_error(some_house(), "TakenId", 1, "add_lot", 1, 3, 6, 10)
        self.check_error(some_house(), "TakenId", 5, "add_lot", 5, 7, 7, 1)
        self.assertIsNone(some_house().add_lot(7, 7, 7, 1))

    def test_an_id_that_is_free_again(self):
        house = some_house()
        house.recall(5)
        house.add_lot(5, 2, 2, 2)
        self.assertEqual(house.lot(5), (5, 2, 2, 2))

    def test_a_hundred_lots_and_one_more(self):
        house = House(today=3)
        for ident in range(100, 0, -1):
            house.add_lot(ident, 1, 5, ident)
        self.assertEqual(house.lots, [(ident, 1, 5, ident) for ident in range(1, 101)])
        self.check_error(house, "TooMany", 101, "add_lot", 101, 1, 5, 1)
        self.check_error(house, "TakenId", 100, "add_lot", 100, 1, 5, 1)
        self.check_error(house, "BadGoods", (100, 1, 2, 1), "add_lot", 100, 1, 2, 1)
        self.check_error(house, "BadGoods", (101, 1, 5, 0), "add_lot", 101, 1, 5, 0)
        house.change_lot(100, 2, 3, 4)
        house.recall(1)
        house.add_lot(101, 1, 5, 1)
        self.check_error(house, "TooMany", 101, "add_lot", 1, 1, 5, 1)

    def test_the_first_error(self):
        self.check_error(some_house(), "BadGoods", (1, 0, 1, 5), "add_lot", 1, 0, 1, 5)
        self.check_error(some_house(), "BadGoods", (1, 3, 5, 0), "add_lot", 1, 3, 5, 0)


class AcceptTest(HouseTest):
    def test_orders(self):
        house = House(today=3)
        house.add_lot(1, 0, DAY, 10)
        self.assertIsNone(house.accept(9, 3, 3, 1))
        self.assertIsNone(house.accept(4, DAY, DAY, 2))
        self.assertIsNone(house.accept(keeps=5, ident=10 ** 6, amount=7, day=3))
        self.assertEqual(house.orders, [(9, 3, 3, 1), (4, DAY, DAY, 2), (10 ** 6, 3, 5, 7)])

    def test_wrong_orders(self):
        wrong = [(4, 1, 5, 1), (4, 0, 0, 1), (4, 5, 4, 1), (4, 3, DAY + 1, 1), (4, -1, 5, 1), (0, 3, 5, 1),
                 (10 ** 6 + 1, 3, 5, 1), (4, 3, 5, 0), (4, 3, 5, MANY + 1), (4, 3, 5, -1), (4, DAY + 1, DAY + 1, 1)]
        self.check_wrong_goods(some_house(), "accept", (4, 3, 5, 5), wrong)
        self.check_error(some_house(), "BadGoods", (4, 1, 5, 1), "accept", amount=1, keeps=5, day=1, ident=4)

    def test_up_to_the_room(self):
        for pair in [(2, 9), (2, 6), (3, 6), (4, 7), (5, 5), (7, 9)]:
            house = some_house()
            room = house.room(*pair)
            self.check_error(house, "NoRoom", room_stairs(LOTS, ORDERS, pair), "accept", 4, *pair, room + 1)
            if room:
                house.accept(4, *pair, room)
                self.assertEqual(house.orders, [*ORDERS, (4, *pair, room)])
                self.assertEqual(house.room(*pair), 0)
        self.check_error(some_house(), "NoRoom", Stairs((8, 10)), "accept", 4, 8, 10, 1)
        self.check_error(House(), "NoRoom", Stairs((0, 0)), "accept", 1, 0, 0, 1)

    def test_taken_ids(self):
        for ident, day, keeps, amount in ORDERS:
            self.check_error(some_house(), "TakenId", ident, "accept", ident, 2, 5, 1)
            self.check_error(some_house(), "TakenId", ident, "accept", ident, 2, 5, MANY)
            self.check_error(some_house(), "BadGoods", (ident, 1, 5, 1), "accept", ident, 1, 5, 1)
        self.assertIsNone(some_house().accept(5, 2, 5, 1))

    def test_an_id_that_is_free_again(self):
        house = some_house()
        house.cancel(7)
        house.accept(7, 2, 2, 2)
        self.assertEqual(house.orders, [*ORDERS[1:], (7, 2, 2, 2)])
        house.close_day()
        house.accept(7, 3, 3, 1)
        self.assertEqual(house.orders, [ORDERS[2], (7, 3, 3, 1)])

    def test_a_hundred_orders_and_one_more(self):
        house = House(today=3)
        house.add_lot(1, 1, 5, 200)
        for ident in range(100, 0, -1):
            house.accept(ident, 3, 5, 1)
        self.assertEqual(house.orders, [(ident, 3, 5, 1) for ident in range(100, 0, -1)])
        self.check_error(house, "TooMany", 101, "accept", 101, 3, 5, 1)
        self.check_error(house, "TooMany", 101, "accept", 101, 3, 5, 101)
        self.check_error(house, "TakenId", 100, "accept", 100, 3, 5, 1)
        self.check_error(house, "BadGoods", (100, 2, 5, 1), "accept", 100, 2, 5, 1)
        house.cancel(50)
        house.accept(101, 3, 5, 101)
        self.check_error(house, "TooMany", 101, "accept", 50, 3, 5, 1)


class LessTest(HouseTest):
    def test_cancel(self):
        house = some_house()
        self.assertIsNone(house.cancel(3))
        self.assertEqual(parts(house), (2, LOTS, [ORDERS[0], ORDERS[2]]))
        self.assertIsNone(house.cancel(ident=9))
        self.assertIsNone(house.cancel(7))
        self.assertEqual(parts(house), (2, LOTS, []))
        self.check_error(house, "UnknownId", 7, "cancel", 7)

    def test_lessen(self):
        house = some_house()
        self.assertIsNone(house.lessen(3, 4))
        self.assertIsNone(house.lessen(amount=1, ident=7))
        self.assertEqual(parts(house), (2, LOTS, [(7, 4, 6, 1), (3, 2, 9, 4), ORDERS[2]]))
        self.check_error(house, "BadGoods", 1, "lessen", 7, 1)

    def test_wrong_amounts(self):
        for amount in [*ODD_VALUES, 0, -1, 5, 6, MANY, MANY + 1, 10 ** 59, -10 ** 59]:
            house = some_house()
            self.check_error(house, "BadGoods", amount, "lessen", 3, amount)
        value = [1]
        self.assertIs(answer(house.lessen, 3, value)[1], value)

    def test_unknown_ids(self):
        house = some_house()
        for ident in [*ODD_VALUES, 0, -1, 1, 5, 10 ** 59]:
            self.check_error(house, "UnknownId", ident, "cancel", ident)
            self.check_error(house, "UnknownId", ident, "lessen", ident, 1)
            self.check_error(house, "UnknownId", ident, "lessen", ident, 0)
            self.assertIs(answer(house.lessen, ident, "x")[1], ident)
        house.add_lot(2, 2, 2, 2)
        self.check_error(house, "UnknownId", 2, "cancel", 2)


class LostGoodsTest(HouseTest):
    def test_the_example_of_the_document(self):
        house = House()
        house.add_lot(1, 0, 5, 10)
        house.accept(7, 2, 4, 6)
        self.assertEqual([cut[:3] for cut in house.change_lot(1, 0, 5, 2)], [(7, 6, 2)])
        self.assertEqual(parts(house), (0, [(1, 0, 5, 2)], [(7, 2, 4, 2)]))

    def test_change_a_lot(self):
        house = some_house()
        self.assertEqual(house.change_lot(5, 7, 12, 30), [
            (3, 5, 0, Stairs((2, 9))), (9, 17, 2, Stairs((5, 6)))])
        self.assertEqual(parts(house), (2, [(1, 3, 6, 10), (5, 7, 12, 30)], [(7, 4, 6, 8), (9, 5, 6, 2)]))
        self.assertEqual(house.change_lot(amount=9, keeps=6, day=3, ident=1), [(9, 2, 1, Stairs((5, 6)))])

    def test_recall_a_lot(self):
        house = some_house()
        self.assertEqual(house.recall(1), [(9, 17, 9, Stairs((5, 6)))])
        self.assertEqual(parts(house), (2, LOTS[1:], [*ORDERS[:2], (9, 5, 6, 9)]))
        self.assertEqual([cut[:3] for cut in house.recall(ident=5)], [(7, 8, 0), (3, 5, 0), (9, 9, 0)])
        self.assertEqual(parts(house), (2, [], []))
        self.check_error(house, "UnknownId", 5, "recall", 5)

    def test_no_cuts(self):
        house = some_house()
        for values in [(1, 3, 6, 10), (1, 0, 9, 11), (1, 4, 6, 10)]:
            self.assertEqual(house.change_lot(*values), [])
            self.assertEqual(parts(house), (2, [values, LOTS[1]], ORDERS))
        house.add_lot(3, 9, 9, 9)
        self.assertEqual(house.recall(3), [])
        self.assertEqual(house.orders, ORDERS)

    def test_the_kinds_of_what_is_returned(self):
        house = some_house()
        for found in [house.cuts_if_recalled(1), house.cuts_if(1, 3, 6, 1), house.recall(1),
                      house.change_lot(5, 2, 6, 1)]:
            self.assertIsInstance(found, list)
            self.assertTrue(found)
            for cut in found:
                self.assertIsInstance(cut, tuple)
                self.assertEqual([len(cut), isinstance(cut[3], Stairs)], [4, True])

    def test_orders_stay_cut_when_there_are_more_goods(self):
        house = some_house()
        house.recall(1)
        house.add_lot(1, 3, 6, 10)
        house.change_lot(1, 0, 20, 100)
        self.assertEqual(house.orders, [*ORDERS[:2], (9, 5, 6, 9)])
        house.change_lot(5, 0, 9, 1)
        house.change_lot(1, 0, 2, 1)
        house.change_lot(5, 0, 9, 100)
        self.assertEqual([order[0] for order in house.orders], [7])

    def test_what_would_be_cut(self):
        house = some_house()
        before = history(house)
        found = house.cuts_if(5, 7, 12, 30)
        self.assertEqual([cut[:3] for cut in found], [(3, 5, 0), (9, 17, 2)])
        self.assertEqual(house.cuts_if(amount=30, keeps=12, day=7, ident=5), found)
        self.assertEqual(house.cuts_if(1, 3, 6, 10), [])
        recalled = house.cuts_if_recalled(1)
        self.assertEqual(house.cuts_if_recalled(ident=1), recalled)
        found.append(1)
        recalled.append(1)
        self.assertEqual(history(house), before)
        self.assertEqual(house.change_lot(5, 7, 12, 30), found[:-1])
        self.assertEqual(some_house().recall(1), recalled[:-1])

    def test_unknown_ids(self):
        house = some_house()
        for ident in [*ODD_VALUES, 0, -1, 2, 7, 10 ** 59]:
            for call in ["recall", "cuts_if_recalled"]:
                self.check_error(house, "UnknownId", ident, call, ident)
            for call in ["change_lot", "cuts_if"]:
                self.check_error(house, "UnknownId", ident, call, ident, 3, 6, 1)
                self.check_error(house, "UnknownId", ident, call, ident, 0, 1, 1)
                self.check_error(house, "UnknownId", ident, call, ident, None, 6, 0)

    def test_wrong_lots(self):
        wrong = [(1, 0, 1, 5), (1, 1, 1, 5), (1, 5, 4, 5), (1, 3, DAY + 1, 5), (1, -1, 5, 5), (1, 3, 5, 0),
                 (1, 3, 5, MANY + 1), (1, 3, 5, -1), (1, DAY + 1, DAY + 1, 5)]
        for call in ["change_lot", "cuts_if"]:
            for values in wrong:
                self.check_error(some_house(), "BadGoods", values, call, *values)
        self.check_wrong_goods(some_house(), "change_lot", (1, 3, 5, 5), [])
        self.assertEqual(some_house().change_lot(1, 0, 2, 5)[0][:3], (9, 17, 9))

    def test_lots_and_orders_of_the_same_id(self):
        house = House()
        house.add_lot(7, 0, 5, 10)
        house.accept(7, 2, 4, 6)
        house.change_lot(7, 0, 5, 8)
        self.assertEqual(parts(house), (0, [(7, 0, 5, 8)], [(7, 2, 4, 6)]))
        house.cancel(7)
        self.assertEqual(parts(house), (0, [(7, 0, 5, 8)], []))


class CloseDayTest(HouseTest):
    def test_the_example_of_the_document(self):
        house = House()
        house.add_lot(1, 0, 5, 10)
        house.accept(7, 0, 4, 6)
        self.assertEqual([house.close_day(), house.lots], [[(7, 1, 6)], [(1, 0, 5, 4)]])

    def test_nothing_there(self):
        house = House()
        self.assertEqual(house.close_day(), [])
        self.assertEqual(parts(house), (1, [], []))

    def test_day_by_day(self):
        house = some_house()
        house.add_lot(4, 8, 8, 1)
        house.add_lot(2, 2, 2, 3)
        self.assertEqual(house.close_day(), [(3, 5, 5)])
        self.assertEqual(parts(house), (3, [(1, 3, 6, 10), (4, 8, 8, 1), (5, 0, 9, 17)], [ORDERS[0], ORDERS[2]]))
        self.assertEqual(house.close_day(), [])
        self.assertEqual(house.close_day(), [(7, 1, 8)])
        self.assertEqual(house.close_day(), [(9, 1, 2), (9, 5, 15)])
        self.assertEqual(parts(house), (6, [(4, 8, 8, 1), (5, 0, 9, 2)], []))

    def test_the_plan_is_that_for_all_orders(self):
        house = House.made(0, [(1, 0, 1, 2), (2, 0, 3, 2), (3, 0, 5, 2)], [(4, 0, 3, 1), (5, 1, 1, 2), (3, 0, 1, 1)])
        plan = make_plan(house.lots, house.orders)
        self.assertEqual(plan, [(3, 1, 1), (4, 2, 1), (5, 1, 1), (5, 2, 1)])
        self.assertEqual(house.close_day(), plan[:2])
        self.assertEqual(parts(house), (1, [(1, 0, 1, 1), (2, 0, 3, 1), (3, 0, 5, 2)], [(5, 1, 1, 2)]))

    def test_lots_that_keep_no_longer_are_gone(self):
        house = House(today=4)
        house.add_lot(1, 4, 4, 9)
        house.add_lot(2, 0, 5, 9)
        house.add_lot(3, 9, 9, 9)
        house.close_day()
        self.assertEqual(house.lots, [(2, 0, 5, 9), (3, 9, 9, 9)])
        house.close_day()
        self.assertEqual(house.lots, [(3, 9, 9, 9)])

    def test_lots_without_goods_are_gone(self):
        house = House()
        house.add_lot(1, 0, 9, 5)
        house.add_lot(2, 0, 9, 5)
        house.accept(7, 0, 9, 5)
        self.assertEqual(house.close_day(), [(7, 1, 5)])
        self.assertEqual(house.lots, [(2, 0, 9, 5)])

    def test_the_last_day(self):
        house = House(today=DAY - 1)
        house.add_lot(1, 0, DAY, 5)
        house.accept(7, DAY - 1, DAY, 2)
        house.accept(8, DAY, DAY, 3)
        self.assertEqual(house.close_day(), [(7, 1, 2)])
        self.assertEqual(parts(house), (DAY, [(1, 0, DAY, 3)], [(8, DAY, DAY, 3)]))
        self.check_error(house, "BadDay", DAY + 1, "close_day")
        self.check_error(House(today=DAY), "BadDay", DAY + 1, "close_day")
        house.undo()
        self.assertEqual(house.today, DAY - 1)

    def test_the_list_is_the_callers(self):
        house = some_house()
        house.close_day().clear()
        before = history(house)
        house.undo()
        house.redo()
        self.assertEqual(history(house), before)


class QuickTest(HouseTest):
    def test_a_hundred_lots_and_orders(self):
        lots, orders = full_house(1)
        house = House.made(0, lots, orders)
        free = House.made(0, lots[1:], orders[1:20])
        for call in [lambda: house.room(300, 600), lambda: answer(house.accept, 101, 300, 600, 1),
                     lambda: house.cuts_if_recalled(50), lambda: house.cuts_if(50, 1000, 1000, 1), house.close_day,
                     lambda: house.change_lot(100, 1000, 1000, 1), house.copied, house.undo, house.redo]:
            self.assertLess(quickest(call), 1)
        for call, values in [("recall", [99]), ("cancel", [house.orders[0][0]]), ("lessen", [house.orders[-1][0], 1])]:
            self.assertLess(quickest(lambda: answer(getattr(house, call), *values)), 1)
        for call, values in [("add_lot", [1, 0, 999, 1]), ("accept", [1, 1000, 1000, 1])]:
            self.assertLess(quickest(lambda: answer(getattr(free, call), *values)), 1)
        self.assertIs(is_plan(house.lots, house.orders, make_plan(house.lots, house.orders)), True)

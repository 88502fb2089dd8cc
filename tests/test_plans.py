"""Promises 7 and 8: plans, the plan, and what is left behind deliveries."""

import copy
import random
import unittest

from freshpromise.errors import NoRoom
from freshpromise.plans import is_barred, is_plan, make_plan, used
from freshpromise.stairs import Stairs
from freshpromise.sums import least_stairs, room_for
from tests.helpers import (
    ODD_VALUES, can_serve, full_house, most_served, pairs_to, plain_plan, plain_suits, plain_surplus, quickest,
    some_goods, staircases, with_ids)

DAY, MANY = 10 ** 6, 10 ** 9
LOTS, ORDERS = [(1, 0, 5, 10), (2, 0, 9, 4)], [(7, 2, 4, 6), (8, 1, 6, 3)]
PLAN = [(8, 2, 3), (7, 1, 6)]
LAST = 4


def small_inputs(seed, many):
    """Yield small lots and orders with drawn ids, with few days and amounts, so that many are equal."""
    chance = random.Random(seed)
    for _ in range(many):
        last, most = chance.choice([1, 2, LAST]), chance.choice([1, 2, 5])
        lots = some_goods(chance, chance.randint(0, 6), last, most + 1)
        orders = some_goods(chance, chance.randint(0, 5), last, most)
        yield with_ids(lots, chance, 9), with_ids(orders, chance, 9)


def plain_is_plan(lots, orders, value):
    """Return whether a list of deliveries, numbers all of them, is a plan."""
    if len({part[:2] for part in value}) < len(value):
        return False
    for order, lot, many in value:
        takers = [one for one in orders if one[0] == order]
        givers = [one for one in lots if one[0] == lot]
        if many < 1 or not takers or not givers or not plain_suits(givers[0], takers[0]):
            return False
    for order in orders:
        if sum(part[2] for part in value if part[0] == order[0]) != order[3]:
            return False
    return all(sum(part[2] for part in value if part[1] == lot[0]) <= lot[3] for lot in lots)


class IsPlanTest(unittest.TestCase):
    def check(self, value, expected, lots=LOTS, orders=ORDERS):
        with self.subTest(value=value, lots=lots, orders=orders):
            self.assertIs(is_plan(lots, orders, value), expected)

    def test_plans(self):
        self.check(PLAN, True)
        self.check(PLAN[::-1], True)
        self.check([(8, 2, 3), (7, 1, 5), (7, 2, 1)], True)
        self.check([(8, 2, 1), (8, 1, 2), (7, 2, 3), (7, 1, 3)], False)
        self.check([(8, 2, 3), (7, 1, 6)], True, lots=LOTS[::-1], orders=ORDERS[::-1])

    def test_nothing_there(self):
        self.check([], True, [], [])
        self.check([], True, LOTS, [])
        self.check([], False, LOTS, ORDERS)
        self.check([], False, [], ORDERS)
        self.check([(7, 1, 1)], False, LOTS, [])
        self.check([(7, 1, 1)], False, [], [])

    def test_a_delivery_changed(self):
        for part in [(8, 2, 2), (8, 2, 4), (8, 2, 0), (8, 2, -3), (8, 1, 3), (8, 3, 3), (7, 2, 3), (9, 2, 3), (1, 2, 3),
                     (2, 8, 3), (8, 2, 10 ** 59), (10 ** 59, 2, 3), (8, -10 ** 59, 3)]:
            self.check([part, (7, 1, 6)], False)
        self.check([(8, 2, 3), (7, 1, 5)], False)
        self.check([(8, 2, 3), (7, 1, 7)], False)

    def test_a_delivery_more_or_less(self):
        self.check(PLAN[:1], False)
        self.check(PLAN[1:], False)
        self.check(PLAN + PLAN[:1], False)
        for part in [(8, 2, 1), (7, 2, 1), (7, 2, 0), (8, 1, 0), (8, 1, -1), (9, 1, 1), (9, 1, 0), (7, 3, 1),
                     (7, 3, 0)]:
            self.check([*PLAN, part], False)
            self.check([part, *PLAN], False)

    def test_no_order_and_lot_come_twice_together(self):
        self.check([(8, 2, 3), (7, 1, 2), (7, 1, 4)], False)
        self.check([(7, 1, 4), (8, 2, 3), (7, 1, 2)], False)
        self.check([(7, 1, 3), (8, 2, 3), (7, 1, 3)], False)
        self.check([(7, 1, 3), (8, 2, 3), (7, 2, 1), (7, 1, 2)], False)
        self.check([(7, 1, 3), (7, 2, 3)], True, [(1, 0, 4, 3), (2, 0, 4, 3)], [(7, 2, 4, 6)])

    def test_amounts_less_than_one_do_not_balance_others(self):
        self.check([(8, 2, 3), (7, 1, 7), (7, 2, -1)], False)
        self.check([(8, 2, 3), (7, 1, 6), (7, 2, 0)], False)

    def test_no_lot_gives_more_than_it_has(self):
        orders = [(7, 2, 4, 6), (8, 2, 4, 6)]
        self.check([(7, 1, 6), (8, 1, 6)], False, [(1, 0, 5, 11), (2, 0, 5, 9)], orders)
        self.check([(7, 1, 6), (8, 1, 6)], True, [(1, 0, 5, 12), (2, 0, 5, 9)], orders)
        self.check([(7, 1, 6), (8, 1, 5), (8, 2, 1)], True, [(1, 0, 5, 11), (2, 0, 5, 9)], orders)

    def test_the_lot_suits_the_order(self):
        for day, keeps, expected in [(2, 4, True), (0, DAY, True), (3, 4, False), (2, 3, False), (3, 9, False)]:
            self.check([(7, 1, 6)], expected, [(1, day, keeps, 6)], [(7, 2, 4, 6)])

    def test_ids_of_lots_and_orders_are_told_apart(self):
        lots, orders = [(1, 0, 5, 3), (2, 0, 5, 9)], [(1, 2, 4, 9), (2, 2, 4, 3)]
        self.check([(1, 2, 9), (2, 1, 3)], True, lots, orders)
        self.check([(2, 1, 9), (1, 2, 3)], False, lots, orders)

    def test_great_numbers(self):
        lots, orders = [(10 ** 6, DAY, DAY, MANY)], [(10 ** 6, DAY, DAY, MANY)]
        self.check([(10 ** 6, 10 ** 6, MANY)], True, lots, orders)
        self.check([(10 ** 6, 10 ** 6, MANY - 1)], False, lots, orders)
        self.check([(10 ** 6, 10 ** 6, MANY + 1)], False, lots, orders)

    def test_other_values_in_place_of_the_list(self):
        for value in [*ODD_VALUES, 0, 7, tuple(PLAN), {0: PLAN[0], 1: PLAN[1]}, {PLAN[0]: True}, PLAN[0], [PLAN], "[]"]:
            self.check(value, False)
            if value != [] or not isinstance(value, list):
                self.check(value, False, [], [])

    def test_other_values_in_place_of_a_delivery(self):
        for value in [*ODD_VALUES, 0, 7, [7, 1, 6], [[7, 1, 6]], (7, 1), (7, 1, 6, 1), ((7, 1, 6),), (7, (1, 6)),
                      {7: 1}, {7: (1, 6)}, "7 1 6", "716"]:
            self.check([(8, 2, 3), value], False)
            self.check([value, (8, 2, 3)], False)
            self.check([*PLAN, value], False)
            self.check([value], False, [], [])

    def test_other_values_in_place_of_a_number(self):
        lots, orders = [(1, 0, 5, 1)], [(1, 2, 4, 1)]
        self.check([(1, 1, 1)], True, lots, orders)
        for at in range(3):
            for value in [True, False, None, "1", "", (1,), (), [1], [], {}, {1: 1}]:
                part = [1, 1, 1]
                part[at] = value
                self.check([tuple(part)], False, lots, orders)

    def test_drawn_lists_of_deliveries(self):
        chance = random.Random(1)
        seen = {True: 0, False: 0}
        for lots, orders in small_inputs(2, 1500):
            value = plain_plan(lots, orders) or []
            if value and chance.random() < 0.7:
                at = chance.randrange(len(value))
                part = list(value[at])
                part[chance.randrange(3)] += chance.choice([-1, 0, 1])
                value[at:at + chance.randint(0, 1)] = [tuple(part)]
            chance.shuffle(value)
            expected = plain_is_plan(lots, orders, value)
            seen[expected] += 1
            self.check(value, expected, lots, orders)
        self.assertGreater(min(seen.values()), 200)


class MakePlanTest(unittest.TestCase):
    def test_the_example_of_the_document(self):
        self.assertEqual(make_plan(LOTS, ORDERS), PLAN)

    def test_nothing_there(self):
        self.assertEqual(make_plan([], []), [])
        self.assertEqual(make_plan(LOTS, []), [])
        with self.assertRaises(NoRoom) as caught:
            make_plan([], ORDERS)
        self.assertEqual(caught.exception.stairs, Stairs((1, 6), (2, 4)))

    def test_the_sequence_of_orders(self):
        lots = [(1, 0, 9, 100)]
        orders = [(5, 3, 3, 1), (6, 2, 9, 2), (4, 2, 8, 3), (3, 2, 9, 4), (9, 0, 9, 5), (2, 2, 8, 6)]
        served = [9, 2, 4, 3, 6, 5]
        self.assertEqual([part[0] for part in make_plan(lots, orders)], served)
        self.assertEqual([part[0] for part in make_plan(lots, orders[::-1])], served)

    def test_the_sequence_of_lots(self):
        lots = [(5, 1, 6, 1), (6, 0, 7, 1), (4, 1, 7, 1), (3, 0, 7, 1), (9, 3, 5, 1), (8, 2, 4, 1), (2, 1, 6, 1)]
        taken = [(1, 9, 1), (1, 2, 1), (1, 5, 1), (1, 3, 1), (1, 6, 1), (1, 4, 1)]
        self.assertEqual(make_plan(lots, [(1, 3, 5, 6)]), taken)
        self.assertEqual(make_plan(lots[::-1], [(1, 3, 5, 6)]), taken)
        self.assertEqual(make_plan(lots, [(1, 3, 5, 3)]), taken[:3])

    def test_as_much_as_is_needed_of_each(self):
        lots = [(1, 0, 4, 5), (2, 0, 5, 5), (3, 0, 6, 5)]
        orders = [(1, 0, 4, 7), (2, 1, 4, 3), (3, 2, 4, 2)]
        self.assertEqual(make_plan(lots, orders), [(1, 1, 5), (1, 2, 2), (2, 2, 3), (3, 3, 2)])

    def test_made_one_by_one(self):
        seen = {True: 0, False: 0}
        for lots, orders in small_inputs(3, 2000):
            expected = plain_plan(lots, orders)
            seen[expected is None] += 1
            with self.subTest(lots=lots, orders=orders):
                if expected is None:
                    with self.assertRaises(NoRoom) as caught:
                        make_plan(lots, orders)
                    self.assertEqual(caught.exception.stairs, least_stairs(lots, orders))
                    self.assertTrue(is_barred(lots, orders, caught.exception.stairs))
                else:
                    self.assertEqual(make_plan(lots, orders), expected)
                    self.assertIs(is_plan(lots, orders, expected), True)
        self.assertGreater(min(seen.values()), 300)

    def test_there_is_one_exactly_if_all_can_be_served(self):
        for lots, orders in small_inputs(4, 600):
            with self.subTest(lots=lots, orders=orders):
                self.assertEqual(can_serve(lots, orders), plain_plan(lots, orders) is not None)
                if can_serve(lots, orders):
                    make_plan(lots, orders)
                else:
                    self.assertRaises(NoRoom, make_plan, lots, orders)

    def test_one_order_more_up_to_the_room(self):
        chance = random.Random(5)
        for lots, orders in small_inputs(6, 600):
            if not can_serve(lots, orders):
                continue
            pair = chance.choice(pairs_to(LAST))
            room = room_for(lots, orders, pair)
            if room > 0:
                make_plan(lots, [*orders, (10, *pair, room)])
            self.assertRaises(NoRoom, make_plan, lots, [*orders, (10, *pair, room + 1)])

    def test_behind_no_other_plan_more_goods_are_left_that_keep(self):
        for lots, orders in small_inputs(7, 600):
            if not can_serve(lots, orders):
                continue
            left = used(lots, make_plan(lots, orders))
            asked = sum(order[3] for order in orders)
            for day in range(LAST + 2):
                sooner = [lot for lot in lots if lot[2] < day]
                later = sum(lot[3] for lot in lots if lot[2] >= day)
                most = later - (asked - most_served(sooner, orders))
                self.assertEqual(sum(lot[3] for lot in left if lot[2] >= day), most)

    def test_a_hundred_lots_and_orders(self):
        lots, orders = full_house(8)
        plan = make_plan(lots, orders)
        self.assertIs(is_plan(lots, orders, plan), True)
        self.assertEqual(make_plan(lots[::-1], orders[::-1]), plan)
        self.assertLess(quickest(lambda: make_plan(lots, orders)), 1)
        self.assertLess(quickest(lambda: is_plan(lots, orders, plan)), 1)
        more = [*orders, (101, 0, DAY, 1)]
        self.assertLess(quickest(lambda: self.assertRaises(NoRoom, make_plan, lots, more)), 1)

    def test_the_list_is_the_callers(self):
        make_plan(LOTS, ORDERS).clear()
        self.assertEqual(make_plan(LOTS, ORDERS), PLAN)


class IsBarredTest(unittest.TestCase):
    def test_the_example_of_the_document(self):
        self.assertIs(is_barred([(1, 0, 5, 10)], [(7, 2, 4, 11)], Stairs((2, 4))), True)

    def test_exactly_a_negative_surplus(self):
        self.assertIs(is_barred([(1, 0, 5, 10)], [(7, 2, 4, 10)], Stairs((2, 4))), False)
        self.assertIs(is_barred([(1, 0, 5, 10)], [(7, 2, 4, 11)], Stairs()), False)
        self.assertIs(is_barred([(1, 0, 5, 10)], [(7, 2, 4, 11)], Stairs((2, 5))), False)
        self.assertIs(is_barred([], [], Stairs((2, 4))), False)
        self.assertIs(is_barred([], [(7, 2, 4, 1)], Stairs((3, 3))), True)

    def test_all_staircases_of_some_days(self):
        choices = staircases(pairs_to(3), 3)
        for lots, orders in small_inputs(9, 60):
            lots, orders = [lot for lot in lots if lot[2] <= 3], [order for order in orders if order[2] <= 3]
            found = [is_barred(lots, orders, Stairs(*pairs)) for pairs in choices]
            self.assertEqual(found, [plain_surplus(lots, orders, pairs) < 0 for pairs in choices])
            self.assertEqual(any(found), not can_serve(lots, orders))


class UsedTest(unittest.TestCase):
    def test_no_deliveries(self):
        self.assertEqual(used(LOTS, []), LOTS)
        self.assertIsNot(used(LOTS, []), LOTS)
        self.assertEqual(used([], []), [])

    def test_what_is_left(self):
        self.assertEqual(used(LOTS, PLAN), [(1, 0, 5, 4), (2, 0, 9, 1)])
        self.assertEqual(used(LOTS, PLAN[:1]), [(1, 0, 5, 10), (2, 0, 9, 1)])
        self.assertEqual(used(LOTS, [(7, 1, 3), (8, 1, 3), (9, 1, 3)]), [(1, 0, 5, 1), (2, 0, 9, 4)])

    def test_lots_without_goods_are_left_out(self):
        self.assertEqual(used(LOTS, [(7, 1, 10)]), [(2, 0, 9, 4)])
        self.assertEqual(used(LOTS, [(7, 1, 4), (7, 2, 4), (8, 1, 6)]), [])
        self.assertEqual(used([(1, 0, 0, 1)], [(7, 1, 1)]), [])

    def test_the_sequence_of_the_lots(self):
        lots = [(5, 1, 6, 3), (2, 0, 3, 9), (9, 0, 7, 2), (1, 1, 1, 2)]
        self.assertEqual(used(lots, [(1, 9, 1), (1, 2, 9), (2, 5, 1)]), [(5, 1, 6, 2), (9, 0, 7, 1), (1, 1, 1, 2)])

    def test_behind_plans(self):
        for lots, orders in small_inputs(10, 200):
            plan = plain_plan(lots, orders) or []
            expected = []
            for lot in lots:
                left = lot[3] - sum(part[2] for part in plan if part[1] == lot[0])
                expected += [(*lot[:3], left)] if left else []
            self.assertEqual(used(lots, plan), expected)


class ArgumentsTest(unittest.TestCase):
    def test_they_stay_as_they_are(self):
        lots, orders, plan = copy.deepcopy(LOTS[::-1]), copy.deepcopy(ORDERS), copy.deepcopy(PLAN)
        for _ in range(2):
            make_plan(lots, orders)
            is_plan(lots, orders, plan)
            is_plan(lots, orders, plan[:1])
            is_barred(lots, orders, Stairs((2, 4)))
            used(lots, plan)
            self.assertRaises(NoRoom, make_plan, [], orders)
            self.assertEqual([lots, orders, plan], [LOTS[::-1], ORDERS, PLAN])

    def test_by_name(self):
        self.assertEqual(make_plan(orders=ORDERS, lots=LOTS), PLAN)
        self.assertIs(is_plan(value=PLAN, orders=ORDERS, lots=LOTS), True)
        self.assertIs(is_barred(stairs=Stairs((2, 4)), orders=ORDERS, lots=[]), True)
        self.assertEqual(used(deliveries=PLAN, lots=LOTS), [(1, 0, 5, 4), (2, 0, 9, 1)])

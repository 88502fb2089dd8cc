"""Promises 5, 6, and what 1 and 7 say of the room."""

import copy
import itertools
import random
import unittest

from freshpromise.stairs import Stairs
from freshpromise.sums import demand, least_stairs, room_for, room_stairs, rooms, supply, surplus
from tests.helpers import (
    can_serve, filled, members, most_served, pairs_to, plain_least, plain_surplus, some_goods, staircases)

DAY, MANY = 10 ** 6, 10 ** 9
LOTS, ORDERS = [(1, 0, 5, 10), (2, 3, 9, 4)], [(7, 2, 4, 6)]
LAST = 4
PAIRS = pairs_to(LAST)
ALL = staircases(PAIRS, LAST)


def small_inputs(seed, many, most=4):
    """Yield small lots and orders over the days up to LAST."""
    chance = random.Random(seed)
    for _ in range(many):
        lots = some_goods(chance, chance.randint(0, 5), LAST, chance.choice([1, 3, most]))
        yield lots, some_goods(chance, chance.randint(0, 5), LAST, chance.choice([1, 2, most]))


def few_inputs():
    """Yield all lots and orders up to two each over three days, with amounts of 1 and 2."""
    kinds = [(day, keeps, amount) for day, keeps in pairs_to(2) for amount in [1, 2]]
    lists = [[]]
    for many in [1, 2]:
        for chosen in itertools.combinations_with_replacement(kinds, many):
            lists.append([(ident + 1, *kind) for ident, kind in enumerate(chosen)])
    return itertools.product(lists, lists)


class SurplusTest(unittest.TestCase):
    def test_pairs_in_the_staircase_count(self):
        stairs = Stairs((2, 4), (3, 5))
        lots = [(1, 2, 4, 1), (2, 0, 4, 10), (3, 2, 9, 100), (4, 3, 4, 1000), (5, 3, 5, 10000), (6, 4, 9, 100000),
                (7, 0, 3, 1000000)]
        self.assertEqual(supply(lots, stairs), 10111)
        self.assertEqual(demand(lots, stairs), 10111)
        self.assertEqual(surplus(lots, lots[:3], stairs), 10000)
        self.assertEqual(surplus(lots[:3], lots, stairs), -10000)

    def test_nothing_there(self):
        for stairs in [Stairs(), Stairs((0, 0)), Stairs((DAY, DAY))]:
            self.assertEqual([supply([], stairs), demand([], stairs), surplus([], [], stairs)], [0, 0, 0])
        self.assertEqual([supply(LOTS, Stairs()), demand(ORDERS, Stairs()), surplus(LOTS, ORDERS, Stairs())], [0, 0, 0])

    def test_all_staircases_of_some_days(self):
        for lots, orders in small_inputs(5, 30):
            for pairs in ALL:
                stairs = Stairs(*pairs)
                self.assertEqual(supply(lots, stairs), plain_surplus(lots, [], pairs))
                self.assertEqual(demand(orders, stairs), plain_surplus(orders, [], pairs))
                self.assertEqual(surplus(lots, orders, stairs), plain_surplus(lots, orders, pairs))

    def test_the_supply_is_that_of_lots_that_suit_some_pair_of_it(self):
        for lots, _ in small_inputs(6, 20):
            for pairs in ALL:
                suited = [lot[3] for lot in lots if any(lot[1] <= day and keeps <= lot[2] for day, keeps in pairs)]
                self.assertEqual(supply(lots, Stairs(*pairs)), sum(suited))

    def test_great_amounts_and_last_days(self):
        lots = [(ident, DAY, DAY, MANY) for ident in range(1, 101)]
        self.assertEqual(supply(lots, Stairs((DAY, DAY))), 100 * MANY)
        self.assertEqual(demand(lots, Stairs((DAY, DAY))), 100 * MANY)
        self.assertEqual(surplus([], lots, Stairs((DAY, DAY))), -100 * MANY)
        self.assertEqual(supply(lots, Stairs((DAY - 1, DAY))), 0)


class LeastStairsTest(unittest.TestCase):
    def check_least(self, lots, orders, choices, last):
        least, shared = plain_least(lots, orders, choices)
        stairs = least_stairs(lots, orders)
        with self.subTest(lots=lots, orders=orders):
            self.assertEqual(members(stairs, last), shared)
            self.assertEqual(stairs, Stairs(*shared))
            self.assertEqual(surplus(lots, orders, stairs), least)

    def test_all_staircases_of_some_days(self):
        for lots, orders in small_inputs(7, 700):
            self.check_least(lots, orders, ALL, LAST)

    def test_all_staircases_that_the_orders_make(self):
        for lots, orders in small_inputs(8, 500, 9):
            self.check_least(lots, orders, staircases([order[1:3] for order in orders], LAST), LAST)

    def test_all_small_inputs(self):
        choices = staircases(pairs_to(2), 2)
        for lots, orders in few_inputs():
            self.check_least(lots, orders, choices, 2)

    def test_nothing_there(self):
        self.assertEqual(least_stairs([], []), Stairs())
        self.assertEqual(least_stairs(LOTS, []), Stairs())
        self.assertEqual(least_stairs([], ORDERS), Stairs((2, 4)))
        self.assertIsInstance(least_stairs([], []), Stairs)

    def test_of_several_the_one_within_all_others(self):
        self.assertEqual(least_stairs([(1, 0, 5, 6)], [(7, 2, 4, 6)]), Stairs())
        self.assertEqual(least_stairs([(1, 0, 5, 5)], [(7, 2, 4, 6)]), Stairs((2, 4)))
        lots = [(1, 0, 3, 1), (2, 4, 8, 5)]
        self.assertEqual(least_stairs(lots, [(7, 2, 3, 2), (8, 5, 8, 5)]), Stairs((2, 3)))
        self.assertEqual(least_stairs(lots, [(7, 2, 3, 2), (8, 5, 8, 6)]), Stairs((2, 3), (5, 8)))

    def test_lots_between_the_orders(self):
        orders = [(1, 1, 4, 3), (2, 5, 9, 3)]
        self.assertEqual(least_stairs([(1, 2, 6, 100)], orders), Stairs((1, 4), (5, 9)))
        self.assertEqual(least_stairs([(1, 2, 9, 100)], orders), Stairs((1, 4)))
        self.assertEqual(least_stairs([(1, 1, 6, 100)], orders), Stairs((5, 9)))
        self.assertEqual(least_stairs([(1, 1, 9, 100)], orders), Stairs())


class RoomTest(unittest.TestCase):
    def check_room(self, lots, orders, pair, choices, last):
        least, shared = plain_least(lots, orders, [choice for choice in choices if pair in choice])
        with self.subTest(lots=lots, orders=orders, pair=pair):
            self.assertEqual(room_for(lots, orders, pair), least)
            stairs = room_stairs(lots, orders, pair)
            self.assertEqual(members(stairs, last), shared)
            self.assertEqual(stairs, Stairs(*shared))
            self.assertIn(pair, stairs)
            self.assertEqual(surplus(lots, orders, stairs), least)

    def test_the_examples_of_the_document(self):
        self.assertEqual(room_for(LOTS, ORDERS, (3, 5)), 8)
        self.assertEqual(room_stairs(LOTS, ORDERS, (3, 5)).text, "2 4, 3 5")
        self.assertEqual(room_for([(1, 0, 5, 10)], [(7, 2, 4, 6)], (2, 6)), 0)

    def test_all_staircases_of_some_days(self):
        for lots, orders in small_inputs(9, 120):
            for pair in PAIRS:
                self.check_room(lots, orders, pair, ALL, LAST)

    def test_all_staircases_that_the_pair_and_the_orders_make(self):
        chance = random.Random(10)
        for lots, orders in small_inputs(11, 400, 9):
            pair = chance.choice(PAIRS)
            made = staircases([order[1:3] for order in orders], LAST)
            choices = [choice | filled([pair], LAST) for choice in made]
            self.check_room(lots, orders, pair, choices, LAST)

    def test_all_small_inputs(self):
        chance = random.Random(12)
        choices = staircases(pairs_to(2), 2)
        for lots, orders in few_inputs():
            self.check_room(lots, orders, chance.choice(pairs_to(2)), choices, 2)

    def test_nothing_there(self):
        for pair in [(0, 0), (0, DAY), (DAY, DAY), (3, 5)]:
            self.assertEqual(room_for([], [], pair), 0)
            self.assertEqual(room_stairs([], [], pair), Stairs(pair))
        self.assertEqual(room_for(LOTS, [], (3, 5)), 14)
        self.assertEqual(room_for(LOTS, [], (2, 5)), 10)
        self.assertEqual(room_for(LOTS, [], (3, 6)), 4)
        self.assertEqual(room_for(LOTS, [], (3, 10)), 0)
        self.assertEqual(room_stairs(LOTS, [], (3, 6)), Stairs((3, 6)))

    def test_more_demand_than_supply(self):
        self.assertEqual(room_for([], ORDERS, (0, 9)), -6)
        self.assertEqual(room_stairs([], ORDERS, (0, 9)), Stairs((2, 4)))
        self.assertEqual(room_for([], ORDERS, (3, 4)), -6)
        self.assertEqual(room_stairs([], ORDERS, (3, 4)), Stairs((3, 4)))
        self.assertEqual(room_for([(1, 3, 3, 2)], ORDERS, (3, 3)), -4)
        self.assertEqual(room_stairs([(1, 3, 3, 2)], ORDERS, (3, 5)), Stairs((2, 4), (3, 5)))

    def test_of_several_the_one_within_all_others(self):
        self.assertEqual(room_stairs([(1, 3, 5, 6)], [(7, 4, 5, 6)], (2, 4)), Stairs((2, 4)))
        self.assertEqual(room_stairs([(1, 3, 5, 6)], [(7, 4, 5, 7)], (2, 4)), Stairs((2, 4), (4, 5)))

    def test_one_order_more_can_be_served_exactly_up_to_the_room(self):
        chance = random.Random(13)
        seen = 0
        for lots, orders in small_inputs(14, 900, 6):
            if not can_serve(lots, orders):
                continue
            seen += 1
            for pair in chance.sample(PAIRS, 3):
                room = room_for(lots, orders, pair)
                with self.subTest(lots=lots, orders=orders, pair=pair):
                    self.assertGreaterEqual(room, 0)
                    self.assertTrue(room == 0 or can_serve(lots, [*orders, (99, *pair, room)]))
                    self.assertFalse(can_serve(lots, [*orders, (99, *pair, room + 1)]))
        self.assertGreater(seen, 100)

    def test_all_can_be_served_exactly_if_no_staircase_lacks(self):
        for lots, orders in small_inputs(15, 400):
            stairs = least_stairs(lots, orders)
            self.assertEqual(can_serve(lots, orders), surplus(lots, orders, stairs) >= 0)
            self.assertEqual(can_serve(lots, orders), stairs == Stairs())

    def test_the_room_falls_with_keeps_and_grows_with_days(self):
        for lots, orders in small_inputs(16, 100):
            for day, keeps in PAIRS:
                room = room_for(lots, orders, (day, keeps))
                self.assertGreaterEqual(room, room_for(lots, orders, (day, keeps + 1)))
                if day < keeps:
                    self.assertLessEqual(room, room_for(lots, orders, (day + 1, keeps)))


class RoomsTest(unittest.TestCase):
    def test_some_pairs(self):
        self.assertEqual(list(rooms(LOTS, ORDERS)), [])
        self.assertEqual(list(rooms(LOTS, ORDERS, (3, 5))), [8])
        self.assertEqual(list(rooms(LOTS, ORDERS, (3, 5), (3, 5))), [8, 8])
        self.assertEqual(list(rooms(LOTS, ORDERS, (3, 6), (3, 5), (0, 5), (3, 10))), [4, 8, 4, 0])
        self.assertEqual(list(rooms([], [], (0, 0))), [0])

    def test_they_come_one_after_the_other(self):
        found = rooms(LOTS, ORDERS, (3, 5), (3, 6))
        self.assertIs(iter(found), found)
        self.assertEqual([next(found), next(found), next(found, None)], [8, 4, None])

    def test_each_is_the_room_for_its_pair(self):
        for lots, orders in small_inputs(17, 40):
            self.assertEqual(list(rooms(lots, orders, *PAIRS)), [room_for(lots, orders, pair) for pair in PAIRS])


class ManyTest(unittest.TestCase):
    """A hundred lots and a hundred orders, compared with the most that can be delivered in sum."""

    def check_input(self, lots, orders, pairs):
        asked = sum(order[3] for order in orders)
        stairs = least_stairs(lots, orders)
        self.assertEqual(surplus(lots, orders, stairs), most_served(lots, orders) - asked)
        for pair in pairs:
            wish = sum(lot[3] for lot in lots) + 1
            room = most_served(lots, [(101, *pair, wish), *orders]) - asked
            self.assertEqual(room_for(lots, orders, pair), room)
            stairs = room_stairs(lots, orders, pair)
            self.assertIn(pair, stairs)
            self.assertEqual(surplus(lots, orders, stairs), room)

    def test_great_amounts(self):
        chance = random.Random(18)
        lots, orders = some_goods(chance, 100, DAY, MANY), some_goods(chance, 100, DAY, MANY)
        self.check_input(lots, orders, [(500000, 600000), (0, DAY), (DAY, DAY)])

    def test_promises_that_can_be_kept(self):
        chance = random.Random(19)
        lots = some_goods(chance, 100, 60, MANY)
        orders = []
        for ident, day, keeps, amount in some_goods(chance, 400, 60, MANY // 2):
            if len(orders) < 100 and amount <= room_for(lots, orders, (day, keeps)):
                orders.append((ident, day, keeps, amount))
        self.assertEqual(len(orders), 100)
        self.assertTrue(can_serve(lots, orders))
        self.assertEqual(least_stairs(lots, orders), Stairs())
        self.check_input(lots, orders, [(30, 40), (10, 12), (55, 60)])

    def test_equal_goods(self):
        lots = [(ident, 5, 9, MANY) for ident in range(1, 101)]
        self.assertEqual(room_for(lots, lots, (5, 9)), 0)
        self.assertEqual(room_for(lots, lots[1:], (5, 9)), MANY)
        self.assertEqual(room_for(lots[1:], lots, (5, 9)), -MANY)
        self.assertEqual(least_stairs(lots[1:], lots), Stairs((5, 9)))
        self.assertEqual(least_stairs(lots, lots), Stairs())


class ArgumentsTest(unittest.TestCase):
    def test_they_stay_as_they_are(self):
        lots, orders, stairs, pair = copy.deepcopy(LOTS), copy.deepcopy(ORDERS), Stairs((2, 4)), (3, 5)
        for _ in range(2):
            supply(lots, stairs)
            demand(orders, stairs)
            surplus(lots, orders, stairs)
            least_stairs(lots, orders)
            room_for(lots, orders, pair)
            room_stairs(lots, orders, pair)
            list(rooms(lots, orders, pair, pair))
            self.assertEqual([lots, orders, pair, stairs], [LOTS, ORDERS, (3, 5), Stairs((2, 4))])

    def test_by_name(self):
        stairs = Stairs((2, 4))
        self.assertEqual(supply(stairs=stairs, lots=LOTS), 10)
        self.assertEqual(demand(stairs=stairs, orders=ORDERS), 6)
        self.assertEqual(surplus(stairs=stairs, orders=ORDERS, lots=LOTS), 4)
        self.assertEqual(least_stairs(orders=ORDERS, lots=[]), stairs)
        self.assertEqual(room_for(pair=(3, 5), orders=ORDERS, lots=LOTS), 8)
        self.assertEqual(room_stairs(pair=(3, 5), orders=ORDERS, lots=LOTS).text, "2 4, 3 5")
        self.assertEqual(list(rooms(orders=ORDERS, lots=LOTS)), [])

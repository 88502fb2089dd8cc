"""Promise 14: offers, barred days and the longest keeping; and the chart of rooms that they read."""

import copy
import random
import unittest

from freshpromise.charts import RoomChart
from freshpromise.offers import barred_days, longest_keeping, offer
from freshpromise.stairs import Stairs
from freshpromise.sums import room_for, room_stairs
from tests.helpers import can_serve, full_house, pairs_to, quickest, some_goods, with_ids

DAY, MANY = 10 ** 6, 10 ** 9
LOTS, ORDERS = [(1, 0, 5, 10), (2, 3, 9, 4)], [(7, 3, 8, 2)]
LAST = 7


def small_inputs(seed, many):
    """Yield small lots and orders with drawn ids."""
    chance = random.Random(seed)
    for _ in range(many):
        lots = some_goods(chance, chance.randint(0, 6), LAST, chance.choice([1, 2, 6]))
        orders = some_goods(chance, chance.randint(0, 5), LAST, chance.choice([1, 3]))
        if chance.random() < 0.7:
            kept = []
            for order in orders:
                kept += [order] if can_serve(lots, [*kept, order]) else []
            orders = kept
        yield with_ids(lots, chance), with_ids(orders, chance)


def plain_offer(lots, orders, day, span, amount, last):
    """Return the offer and the barred days, found by looking at every day up to a last one."""
    barred = []
    for first in range(day, last - span + 1):
        pair = (first, first + span)
        if room_for(lots, orders, pair) >= amount:
            return first, barred
        barred.append((first, room_stairs(lots, orders, pair)))
    greatest = max([lot[2] for lot in lots], default=-1)
    return None, [(first, stairs) for first, stairs in barred if first + span <= greatest]


class OfferTest(unittest.TestCase):
    def check(self, lots, orders, day, span, amount, last=LAST + 3):
        expected, barred = plain_offer(lots, orders, day, span, amount, last)
        with self.subTest(lots=lots, orders=orders, day=day, span=span, amount=amount):
            self.assertEqual(offer(lots, orders, day, span, amount), expected)
            self.assertEqual(list(barred_days(lots, orders, day, span, amount)), barred)
        return expected, len(barred)

    def test_the_example_of_the_document(self):
        self.assertEqual(offer([(1, 0, 5, 10), (2, 3, 9, 4)], [], 0, 4, 3), 0)

    def test_some_offers(self):
        self.assertEqual(offer(LOTS, ORDERS, 0, 5, 10), 0)
        self.assertEqual(offer(LOTS, ORDERS, 0, 5, 11), None)
        self.assertEqual(offer(LOTS, ORDERS, 0, 2, 11), 3)
        self.assertEqual(offer(LOTS, ORDERS, 0, 2, 12), 3)
        self.assertEqual(offer(LOTS, ORDERS, 0, 2, 13), None)
        self.assertEqual(offer(LOTS, ORDERS, 1, 5, 1), 3)
        self.assertEqual(offer(LOTS, ORDERS, 1, 5, 2), 3)
        self.assertEqual(offer(LOTS, ORDERS, 1, 5, 3), None)
        self.assertEqual(offer(LOTS, ORDERS, 4, 5, 2), 4)
        self.assertEqual(offer(LOTS, ORDERS, 5, 5, 1), None)

    def test_every_day_looked_at(self):
        chance = random.Random(1)
        seen = {}
        for lots, orders in small_inputs(2, 700):
            day, span = chance.randint(0, LAST + 1), chance.choice([0, 0, 1, 2, 3, 5, LAST])
            found, many = self.check(lots, orders, day, span, chance.randint(1, 8))
            kind = (found is None, found == day, many > 0)
            seen[kind] = seen.get(kind, 0) + 1
        self.assertEqual(len(seen), 4)
        self.assertGreater(min(seen.values()), 20)

    def test_every_day_span_and_amount(self):
        for lots, orders in small_inputs(3, 6):
            for day in range(LAST + 2):
                for span in range(LAST + 2):
                    for amount in [1, 2, 5]:
                        self.check(lots, orders, day, span, amount)

    def test_no_lots(self):
        for orders in [[], ORDERS]:
            for day, span, amount in [(0, 0, 1), (3, 5, 1), (DAY, 0, MANY), (0, DAY, 1), (0, DAY + 1, 1)]:
                self.assertIsNone(offer([], orders, day, span, amount))
                self.assertEqual(list(barred_days([], orders, day, span, amount)), [])

    def test_amounts_that_no_day_has_room_for(self):
        for amount in [15, MANY]:
            self.assertIsNone(offer(LOTS, [], 0, 0, amount))
            found = list(barred_days(LOTS, [], 0, 0, amount))
            self.assertEqual(found, [(day, Stairs((day, day))) for day in range(10)])
            self.assertEqual([barred[0] for barred in barred_days(LOTS, [], 0, 4, amount)], [0, 1, 2, 3, 4, 5])
            self.assertEqual(list(barred_days(LOTS, [], 10, 0, amount)), [])
            self.assertEqual(list(barred_days(LOTS, [], 9, 0, amount)), [(9, Stairs((9, 9)))])

    def test_great_spans(self):
        for span in [10, DAY - 1, DAY, DAY + 1, 10 ** 59]:
            self.assertIsNone(offer(LOTS, ORDERS, 0, span, 1))
            self.assertEqual(list(barred_days(LOTS, ORDERS, 0, span, 1)), [])
        lots = [(1, 0, DAY, 5)]
        self.assertEqual(offer(lots, [], 0, DAY, 5), 0)
        self.assertIsNone(offer(lots, [], 0, DAY, 6))
        self.assertEqual(list(barred_days(lots, [], 0, DAY, 6)), [(0, Stairs((0, DAY)))])
        self.assertIsNone(offer(lots, [], 1, DAY, 1))
        self.assertEqual(list(barred_days(lots, [], 1, DAY, 1)), [])
        self.assertIsNone(offer(lots, [], 0, DAY + 1, 1))

    def test_a_day_from_which_on_there_is_nothing(self):
        self.assertIsNone(offer(LOTS, ORDERS, 10, 0, 1))
        self.assertEqual(list(barred_days(LOTS, ORDERS, 10, 0, 1)), [])
        self.assertEqual(offer(LOTS, [], 9, 0, 4), 9)
        self.assertIsNone(offer(LOTS, [], 9, 1, 1))

    def test_the_last_day(self):
        lots = [(1, DAY, DAY, 5), (2, 0, 4, 3)]
        self.assertEqual(offer(lots, [], 5, 0, 5), DAY)
        self.assertEqual(offer(lots, [], DAY, 0, 5), DAY)
        self.assertIsNone(offer(lots, [], DAY, 1, 1))
        self.assertIsNone(offer(lots, [], 5, 1, 1))
        self.assertIsNone(offer(lots, [], DAY, 0, 6))
        self.assertEqual(list(barred_days(lots, [], DAY, 0, 6)), [(DAY, Stairs((DAY, DAY)))])
        self.assertEqual(list(barred_days(lots, [], DAY - 2, 0, 5)),
                         [(DAY - 2, Stairs((DAY - 2, DAY - 2))), (DAY - 1, Stairs((DAY - 1, DAY - 1)))])
        self.assertEqual(list(barred_days(lots, [], DAY, 0, 5)), [])

    def test_lots_and_orders_without_a_plan(self):
        orders = [(7, 1, 4, 11)]
        self.assertIsNone(offer([(1, 0, 5, 10)], orders, 0, 0, 1))
        self.check([(1, 0, 5, 10), (2, 2, 5, 6)], orders, 0, 1, 6)
        self.check([(1, 0, 5, 10), (2, 2, 5, 6)], orders, 0, 1, 5)

    def test_barred_days_come_one_after_the_other(self):
        found = barred_days([(1, DAY, DAY, 5)], [], 0, 0, 5)
        self.assertIs(iter(found), found)
        self.assertEqual([next(found), next(found)], [(0, Stairs((0, 0))), (1, Stairs((1, 1)))])

    def test_barred_days_show_it(self):
        for lots, orders in small_inputs(4, 100):
            for day, stairs in barred_days(lots, orders, 0, 1, 3):
                self.assertIn((day, day + 1), stairs)
                self.assertEqual(stairs, room_stairs(lots, orders, (day, day + 1)))

    def test_far_days(self):
        chance = random.Random(5)
        for lots, orders in small_inputs(6, 40):
            far = [[(one[0], one[1] * 40, one[2] * 40 + 7, one[3]) for one in goods] for goods in [lots, orders]]
            self.check(*far, chance.randint(0, 100), chance.choice([0, 3, 47, 80]), chance.randint(1, 6), 400)

    def test_a_hundred_lots_and_orders(self):
        lots, orders = full_house(7, 120)
        chance = random.Random(8)
        for span, amount in [(0, MANY), (5, 100 * MANY), (20, 5 * MANY), (40, MANY // 9)]:
            expected = [first for first in range(121) if room_for(lots, orders, (first, first + span)) >= amount]
            end = expected[0] if expected else max(lot[2] for lot in lots) - span + 1
            self.assertEqual(offer(lots, orders, 0, span, amount), expected[0] if expected else None)
            found = list(barred_days(lots, orders, 0, span, amount))
            self.assertEqual([first for first, _ in found], list(range(end)))
            for first, stairs in chance.sample(found, min(len(found), 40)):
                self.assertEqual(stairs, room_stairs(lots, orders, (first, first + span)))

    def test_it_is_quick(self):
        lots, orders = full_house(9)
        self.assertLess(quickest(lambda: offer(lots, orders, 0, 10, 10 ** 9 * 100)), 1)
        self.assertLess(quickest(lambda: list(barred_days(lots, orders, 0, 10, 10 ** 9 * 100))), 1)
        self.assertLess(quickest(lambda: longest_keeping(lots, orders, 300, 10 ** 9 * 100)), 1)


class LongestKeepingTest(unittest.TestCase):
    def test_the_example_of_the_document(self):
        self.assertEqual(longest_keeping([(1, 0, 5, 10), (2, 3, 9, 4)], [(7, 3, 8, 2)], 3, 3), 5)

    def test_every_keeps_looked_at(self):
        seen = {}
        for lots, orders in small_inputs(10, 200):
            for day in range(LAST + 2):
                for amount in [1, 2, 4]:
                    right = [keeps for keeps in range(day, LAST + 4) if room_for(lots, orders, (day, keeps)) >= amount]
                    expected = right[-1] if right else None
                    seen[expected] = seen.get(expected, 0) + 1
                    with self.subTest(lots=lots, orders=orders, day=day, amount=amount):
                        self.assertEqual(longest_keeping(lots, orders, day, amount), expected)
        self.assertEqual(len(seen), LAST + 2)

    def test_nothing_there(self):
        self.assertIsNone(longest_keeping([], [], 0, 1))
        self.assertIsNone(longest_keeping([], ORDERS, 3, 1))
        self.assertIsNone(longest_keeping(LOTS, ORDERS, 0, 11))
        self.assertIsNone(longest_keeping(LOTS, ORDERS, 3, MANY))
        self.assertIsNone(longest_keeping(LOTS, ORDERS, 10, 1))
        self.assertIsNone(longest_keeping([(1, 0, 5, 10)], [(7, 2, 4, 11)], 0, 1))

    def test_the_edges(self):
        self.assertEqual(longest_keeping(LOTS, [], 0, 10), 5)
        self.assertEqual(longest_keeping(LOTS, [], 3, 14), 5)
        self.assertEqual(longest_keeping(LOTS, [], 3, 4), 9)
        self.assertEqual(longest_keeping(LOTS, [], 2, 4), 5)
        self.assertEqual(longest_keeping(LOTS, [], 9, 4), 9)
        self.assertEqual(longest_keeping([(1, 0, DAY, 5)], [], 0, 5), DAY)
        self.assertEqual(longest_keeping([(1, DAY, DAY, 5)], [], DAY, 5), DAY)
        self.assertIsNone(longest_keeping([(1, DAY, DAY, 5)], [], DAY - 1, 5))

    def test_a_hundred_lots_and_orders(self):
        lots, orders = full_house(11, 120)
        for day, amount in [(0, 1), (30, MANY), (70, MANY // 100), (100, 1)]:
            right = [keeps for keeps in range(day, 121) if room_for(lots, orders, (day, keeps)) >= amount]
            self.assertEqual(longest_keeping(lots, orders, day, amount), right[-1] if right else None)


class RoomChartTest(unittest.TestCase):
    def test_all_pairs(self):
        for lots, orders in small_inputs(12, 150):
            chart = RoomChart(lots, orders)
            for pair in pairs_to(LAST + 1):
                with self.subTest(lots=lots, orders=orders, pair=pair):
                    self.assertEqual(chart.room(pair), room_for(lots, orders, pair))
                    self.assertEqual(chart.stairs_of(pair), room_stairs(lots, orders, pair))

    def test_nothing_there(self):
        for pair in [(0, 0), (0, DAY), (DAY, DAY)]:
            self.assertEqual(RoomChart([], []).room(pair), 0)
            self.assertEqual(RoomChart([], []).stairs_of(pair), Stairs(pair))

    def test_great_amounts(self):
        lots, orders = full_house(13, DAY)
        chart = RoomChart(lots, orders)
        for pair in [(0, 0), (0, DAY), (DAY, DAY), *[one[1:3] for one in lots[::9] + orders[::9]]]:
            self.assertEqual(chart.room(pair), room_for(lots, orders, pair))
            self.assertEqual(chart.stairs_of(pair), room_stairs(lots, orders, pair))


class ArgumentsTest(unittest.TestCase):
    def test_they_stay_as_they_are(self):
        lots, orders = copy.deepcopy(LOTS), copy.deepcopy(ORDERS)
        for _ in range(2):
            offer(lots, orders, 0, 2, 12)
            list(barred_days(lots, orders, 0, 2, 13))
            longest_keeping(lots, orders, 3, 3)
            self.assertEqual([lots, orders], [LOTS, ORDERS])

    def test_by_name(self):
        self.assertEqual(offer(amount=12, span=2, day=0, orders=ORDERS, lots=LOTS), 3)
        found = list(barred_days(amount=12, span=2, day=1, orders=ORDERS, lots=LOTS))
        self.assertEqual(found, [(1, Stairs((1, 3))), (2, Stairs((2, 4)))])
        self.assertEqual(longest_keeping(amount=3, day=3, orders=ORDERS, lots=LOTS), 5)

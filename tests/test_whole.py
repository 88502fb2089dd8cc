"""What holds of all parts together: promises 1, 6, 7, 9, 12 and 14 on inputs that belong to each other."""

import random
import unittest

from freshpromise.cuts import cut_stairs, cuts, kept_amounts
from freshpromise.errors import NoRoom
from freshpromise.house import House
from freshpromise.offers import barred_days, longest_keeping, offer
from freshpromise.plans import is_plan, make_plan
from freshpromise.stairs import Stairs
from freshpromise.sums import least_stairs, room_for, room_stairs
from tests.helpers import most_served, pairs_to, some_goods, with_ids
from tests.models import answer, parts

LAST = 5


def drawn_inputs(seed, many):
    """Yield small lots and orders with drawn ids."""
    chance = random.Random(seed)
    for _ in range(many):
        lots = some_goods(chance, chance.randint(0, 6), LAST, chance.choice([1, 3, 9]))
        yield with_ids(lots, chance, 50), with_ids(some_goods(chance, chance.randint(0, 6), LAST, 4), chance, 50)


def later_goods(goods, by):
    """Return lots or orders so many days later."""
    return [(ident, day + by, keeps + by, amount) for ident, day, keeps, amount in goods]


def later_stairs(stairs, by):
    """Return the staircase whose corners are so many days later."""
    return Stairs(*[(day + by, keeps + by) for day, keeps in stairs.corners])


def more_goods(goods, by):
    """Return lots or orders with so many times the amounts."""
    return [(*one[:3], one[3] * by) for one in goods]


def plan_of(lots, orders):
    """Return the plan, or the staircase that shows that there is none."""
    try:
        return make_plan(lots, orders)
    except NoRoom as error:
        return error.stairs


def drawn_house(chance):
    """Return a house with drawn lots and orders."""
    house = House()
    for ident, day, keeps, amount in some_goods(chance, chance.randint(1, 7), LAST, 6):
        house.add_lot(ident, day, keeps, amount)
    for ident, day, keeps, amount in some_goods(chance, 9, LAST, 4):
        answer(house.accept, ident, day, keeps, amount)
    return house


class WholeTest(unittest.TestCase):
    def test_all_days_later(self):
        chance = random.Random(1)
        for lots, orders in drawn_inputs(2, 150):
            by = chance.choice([1, 100, 10 ** 6 - LAST - 2])
            lots_then, orders_then = later_goods(lots, by), later_goods(orders, by)
            day, keeps = pair = chance.choice(pairs_to(LAST + 1))
            then = (day + by, keeps + by)
            with self.subTest(lots=lots, orders=orders, pair=pair, by=by):
                self.assertEqual(room_for(lots_then, orders_then, then), room_for(lots, orders, pair))
                self.assertEqual(room_stairs(lots_then, orders_then, then),
                                 later_stairs(room_stairs(lots, orders, pair), by))
                self.assertEqual(least_stairs(lots_then, orders_then), later_stairs(least_stairs(lots, orders), by))
                plan = plan_of(lots, orders)
                self.assertEqual(plan_of(lots_then, orders_then),
                                 plan if isinstance(plan, list) else later_stairs(plan, by))
                self.assertEqual(list(cuts(lots_then, orders_then)),
                                 [(*cut[:3], later_stairs(cut[3], by)) for cut in cuts(lots, orders)])
                found = offer(lots, orders, day, keeps - day, 3)
                self.assertEqual(offer(lots_then, orders_then, day + by, keeps - day, 3),
                                 None if found is None else found + by)
                self.assertEqual(list(barred_days(lots_then, orders_then, day + by, keeps - day, 3)),
                                 [(first + by, later_stairs(stairs, by))
                                  for first, stairs in barred_days(lots, orders, day, keeps - day, 3)])
                found = longest_keeping(lots, orders, day, 3)
                self.assertEqual(longest_keeping(lots_then, orders_then, day + by, 3),
                                 None if found is None else found + by)

    def test_all_amounts_multiplied(self):
        chance = random.Random(3)
        for lots, orders in drawn_inputs(4, 150):
            by = chance.choice([2, 7, 10 ** 8])
            lots_more, orders_more = more_goods(lots, by), more_goods(orders, by)
            day, keeps = pair = chance.choice(pairs_to(LAST + 1))
            with self.subTest(lots=lots, orders=orders, pair=pair, by=by):
                self.assertEqual(room_for(lots_more, orders_more, pair), room_for(lots, orders, pair) * by)
                self.assertEqual(room_stairs(lots_more, orders_more, pair), room_stairs(lots, orders, pair))
                plan = plan_of(lots, orders)
                if isinstance(plan, list):
                    plan = [(order, lot, many * by) for order, lot, many in plan]
                self.assertEqual(plan_of(lots_more, orders_more), plan)
                self.assertEqual(list(cuts(lots_more, orders_more)),
                                 [(cut[0], cut[1] * by, cut[2] * by, cut[3]) for cut in cuts(lots, orders)])
                self.assertEqual(offer(lots_more, orders_more, day, keeps - day, 3 * by),
                                 offer(lots, orders, day, keeps - day, 3))
                self.assertEqual(list(barred_days(lots_more, orders_more, day, keeps - day, 3 * by)),
                                 list(barred_days(lots, orders, day, keeps - day, 3)))
                self.assertEqual(longest_keeping(lots_more, orders_more, day, 3 * by),
                                 longest_keeping(lots, orders, day, 3))

    def test_lots_parted_into_two(self):
        chance = random.Random(5)
        for lots, orders in drawn_inputs(6, 150):
            parted = []
            for ident, day, keeps, amount in lots:
                first = chance.randint(1, amount)
                parted.append((ident * 2, day, keeps, first))
                parted += [(ident * 2 + 1, day, keeps, amount - first)] if first < amount else []
            self.check_same(lots, orders, parted, orders, chance)
            plan, sums = plan_of(parted, orders), {}
            if isinstance(plan, list):
                for order, lot, many in plan:
                    sums[order, lot // 2] = sums.get((order, lot // 2), 0) + many
                plan = [(order, lot, many) for (order, lot), many in sums.items()]
            self.assertEqual(plan, plan_of(lots, orders))
            self.assertEqual(list(cuts(parted, orders)), list(cuts(lots, orders)))

    def test_another_sequence(self):
        chance = random.Random(7)
        for lots, orders in drawn_inputs(8, 150):
            lots_then, orders_then = chance.sample(lots, len(lots)), chance.sample(orders, len(orders))
            self.check_same(lots, orders, lots_then, orders_then, chance)
            self.assertEqual(plan_of(lots_then, orders_then), plan_of(lots, orders))
            self.assertEqual(list(cuts(lots_then, orders)), list(cuts(lots, orders)))
            self.assertEqual(sum(kept_amounts(lots, orders_then)), sum(kept_amounts(lots, orders)))

    def check_same(self, lots, orders, lots_then, orders_then, chance):
        day, keeps = pair = chance.choice(pairs_to(LAST + 1))
        with self.subTest(lots=lots, orders=orders, lots_then=lots_then, orders_then=orders_then, pair=pair):
            self.assertEqual(least_stairs(lots_then, orders_then), least_stairs(lots, orders))
            self.assertEqual(room_for(lots_then, orders_then, pair), room_for(lots, orders, pair))
            self.assertEqual(room_stairs(lots_then, orders_then, pair), room_stairs(lots, orders, pair))
            self.assertEqual(offer(lots_then, orders_then, day, 1, 3), offer(lots, orders, day, 1, 3))
            self.assertEqual(list(barred_days(lots_then, orders_then, day, keeps - day, 3)),
                             list(barred_days(lots, orders, day, keeps - day, 3)))
            self.assertEqual(longest_keeping(lots_then, orders_then, day, 3), longest_keeping(lots, orders, day, 3))

    def test_cut_promises_can_be_kept_and_no_more_in_sum(self):
        for lots, orders in drawn_inputs(9, 200):
            amounts = kept_amounts(lots, orders)
            kept = [(*order[:3], amount) for order, amount in zip(orders, amounts) if amount]
            self.assertIs(is_plan(lots, kept, make_plan(lots, kept)), True)
            self.assertEqual(sum(amounts), most_served(lots, orders))
            self.assertEqual(cut_stairs(lots, kept), Stairs())
            self.assertEqual(bool(cut_stairs(lots, orders)), bool(least_stairs(lots, orders)))

    def test_the_rooms_of_later_days_are_the_same_behind_closing_the_day(self):
        chance = random.Random(10)
        closed = 0
        for _ in range(120):
            house = drawn_house(chance)
            while house.lots:
                later = [pair for pair in pairs_to(LAST + 1) if pair[0] > house.today]
                before = [house.room(*pair) for pair in later]
                closed += bool(house.close_day())
                self.assertEqual([house.room(*pair) for pair in later], before)
        self.assertGreater(closed, 100)

    def test_what_was_accepted_is_delivered_on_its_day(self):
        chance = random.Random(11)
        for _ in range(150):
            house = drawn_house(chance)
            start, orders = parts(house)[1:]
            got = {}
            while house.orders:
                today, stock = house.today, {lot[0]: lot for lot in house.lots}
                for order, lot, many in house.close_day():
                    asked = [one for one in orders if one[0] == order][0]
                    self.assertEqual(asked[1], today)
                    self.assertTrue(stock[lot][1] <= today and stock[lot][2] >= asked[2])
                    got.setdefault(order, []).append((lot, many))
            for ident, _, _, amount in orders:
                self.assertEqual(sum(many for _, many in got[ident]), amount)
            for ident, _, _, amount in start:
                given = sum(many for ways in got.values() for lot, many in ways if lot == ident)
                self.assertLessEqual(given, amount)

    def test_an_offer_can_be_accepted_and_nothing_sooner(self):
        chance = random.Random(12)
        for _ in range(100):
            house = drawn_house(chance)
            span, amount = chance.randint(0, 3), chance.randint(1, 5)
            found = offer(house.lots, house.orders, house.today, span, amount)
            for day, stairs in barred_days(house.lots, house.orders, house.today, span, amount):
                self.assertEqual(answer(house.accept, 99, day, day + span, amount), ["NoRoom", stairs])
            if found is not None:
                house.accept(99, found, found + span, amount)
            keeps = longest_keeping(house.lots, house.orders, 2, amount)
            if keeps is not None:
                self.assertEqual(answer(house.accept, 98, 2, keeps + 1, amount)[0], "NoRoom")
                house.accept(98, 2, keeps, amount)

    def test_houses_with_all_days_later(self):
        chance = random.Random(13)
        for _ in range(60):
            house, by = House(), chance.choice([1, 1000, 10 ** 6 - 40])
            then = House(today=by)
            for _ in range(25):
                call = chance.choice(["add_lot", "accept", "accept", "change_lot", "recall", "close_day", "undo"])
                values = [chance.randint(1, 5)] if call == "recall" else []
                shifted = values
                if call in ["add_lot", "accept", "change_lot"]:
                    day = house.today + chance.randint(0, 3)
                    values = [chance.randint(1, 5), day, day + chance.randint(0, 4), chance.randint(1, 6)]
                    [shifted] = later_goods([values], by)
                found, expected = answer(getattr(then, call), *shifted), answer(getattr(house, call), *values)
                self.assertEqual(found is None, expected is None)
                self.assertEqual(then.today, house.today + by)
                self.assertEqual(then.lots, later_goods(house.lots, by))
                self.assertEqual(then.orders, later_goods(house.orders, by))

"""Promises 18 and 19: burdens, safe rooms, safe promises, worst losses, blockers and spares."""

import copy
import itertools
import random
import unittest

from freshpromise.cuts import kept_amounts
from freshpromise.errors import UnknownId
from freshpromise.losses import worst_losses
from freshpromise.plans import is_plan, make_plan
from freshpromise.risks import blockers, burden, is_safe, safe_room, spare, worst_loss
from freshpromise.stairs import Stairs
from freshpromise.sums import least_stairs, room_for, room_stairs, surplus
from tests.helpers import (ODD_VALUES, can_serve, full_house, members, most_served, pairs_to, plain_kept, plain_least,
                           plain_room, quickest, some_goods, staircases, with_ids)
from tests.models import answer

DAY, MANY = 10 ** 6, 10 ** 9
LOTS, ORDERS = [(5, 3, 9, 4), (2, 0, 5, 10), (9, 0, 5, 3)], [(7, 2, 4, 6), (8, 3, 6, 2), (1, 3, 5, 5)]
LAST = 5


def drawn_inputs(seed, many, *, most_lots=6, last=LAST):
    """Yield small lots and orders with drawn ids in drawn sequences, and whether all promises can be kept."""
    chance = random.Random(seed)
    for _ in range(many):
        lots = some_goods(chance, chance.randint(0, most_lots), last, chance.choice([1, 2, 3, 9]))
        orders = some_goods(chance, chance.randint(0, 5), last, chance.choice([1, 3, 5]))
        if chance.random() < 0.4:
            # Equal pairs, as far as there are such.
            lots = [(*lot[:1], *chance.choice(lots)[1:3], lot[3]) for lot in lots]
        if chance.random() < 0.6:
            kept = []
            for order in orders:
                kept += [order] if can_serve(lots, [*kept, order]) else []
            orders = kept
        lots, orders = with_ids(lots, chance, 40), with_ids(orders, chance, 40)
        yield lots, orders, can_serve(lots, orders)


def choices(lots, lost):
    """Return (ids, lots left) for every choice of so many lots, by ascending lists of ascending ids."""
    found = []
    for gone in itertools.combinations(sorted(lots), min(lost, len(lots))):
        found.append(([lot[0] for lot in gone], [lot for lot in lots if lot not in gone]))
    return found


def plain_lack(lots, orders):
    """Return what can't be delivered in sum: what the least surplus lacks to 0."""
    return sum(order[3] for order in orders) - most_served(lots, orders)


class BurdenTest(unittest.TestCase):
    def test_some_burdens(self):
        self.assertEqual([burden(LOTS, ORDERS, ident) for ident in [5, 2, 9]], [2, 6, 0])
        self.assertEqual(burden(ident=2, orders=ORDERS, lots=LOTS), 6)
        self.assertEqual(burden(LOTS, [], 2), 0)
        self.assertEqual(burden([(1, 0, 5, 10)], [(7, 2, 4, 6)], 1), 6)
        self.assertEqual(burden([(1, 0, 5, MANY)], [(7, 2, 4, MANY)], 1), MANY)

    def test_promises_that_can_not_be_kept(self):
        self.assertEqual(burden([(1, 0, 5, 4), (2, 0, 5, 3)], [(7, 2, 4, 9)], 1), 6)
        self.assertEqual(burden([(1, 0, 5, 4), (2, 0, 3, 3)], [(7, 2, 4, 9)], 2), 5)

    def test_against_cutting(self):
        seen = {}
        for lots, orders, kept in drawn_inputs(1, 500):
            for lot in lots:
                rest = [one for one in lots if one != lot]
                cut = sum(order[3] for order in orders) - sum(plain_kept(rest, orders))
                with self.subTest(lots=lots, orders=orders, lot=lot):
                    self.assertEqual(burden(lots, orders, lot[0]), cut)
                    self.assertEqual(sum(order[3] for order in orders) - sum(kept_amounts(rest, orders)), cut)
                    self.assertEqual(-surplus(rest, orders, least_stairs(rest, orders)), cut)
                seen[kept, cut > 0] = seen.get((kept, cut > 0), 0) + 1
        self.assertGreater(min(seen.values()), 50)
        self.assertEqual(sorted(seen), [(False, True), (True, False), (True, True)])

    def test_unknown_ids(self):
        for call in [burden, spare]:
            for ident in [*ODD_VALUES, 0, -1, 1, 3, 7, 8, 10, DAY + 1, 10 ** 59]:
                with self.subTest(call=call, ident=ident):
                    with self.assertRaises(UnknownId) as caught:
                        call(LOTS, ORDERS, ident)
                    self.assertIs(caught.exception.ident, ident)
                    self.assertEqual(answer(call, [], ORDERS, ident), ["UnknownId", ident])
            for ident in [True, [1], (1,), "1"]:
                self.assertEqual(answer(call, [(1, 0, 5, 9)], [], ident), ["UnknownId", ident])
                self.assertEqual(answer(call, [(1, 0, 5, 9)], [], ident=ident), ["UnknownId", ident])


class SpareTest(unittest.TestCase):
    def test_some_spares(self):
        self.assertEqual([spare(LOTS, ORDERS, ident) for ident in [5, 2, 9]], [2, 4, 3])
        self.assertEqual(spare(ident=2, orders=ORDERS, lots=LOTS), 4)
        self.assertEqual(spare(LOTS, [], 2), 10)
        self.assertEqual(spare([(1, 0, 5, 10)], [(7, 2, 4, 10)], 1), 0)
        self.assertEqual(spare([(1, 0, 5, 10)], [(7, 2, 4, 1)], 1), 9)
        self.assertEqual(spare([(1, DAY, DAY, MANY)], [], 1), MANY)
        # The room for the pair can be greater than the lot.
        self.assertEqual(spare([(1, 0, 5, 3), (2, 0, 5, 9)], [(7, 2, 4, 1)], 1), 3)

    def test_against_amounts_taken_away_one_by_one(self):
        seen = {}
        for lots, orders, kept in drawn_inputs(2, 400):
            for at, lot in enumerate(lots if kept else []):
                free = 0
                while free < lot[3]:
                    left = [(*lot[:3], lot[3] - free - 1)] if free + 1 < lot[3] else []
                    if not can_serve([*lots[:at], *left, *lots[at + 1:]], orders):
                        break
                    free += 1
                with self.subTest(lots=lots, orders=orders, lot=lot):
                    self.assertEqual(spare(lots, orders, lot[0]), free)
                    self.assertEqual(min(lot[3], room_for(lots, orders, lot[1:3])), free)
                kind = (free > 0) + (free == lot[3])
                seen[kind] = seen.get(kind, 0) + 1
        self.assertGreater(min(seen[kind] for kind in [0, 1, 2]), 30)


class SafeRoomTest(unittest.TestCase):
    def test_some_rooms(self):
        lots, orders = [(1, 0, 5, 10), (2, 0, 9, 4), (3, 0, 9, 6)], [(7, 2, 4, 6)]
        self.assertEqual([safe_room(lots, orders, (2, 4), lost=lost) for lost in [0, 1, 2, 3, 4]], [14, 4, -2, -6, -6])
        self.assertEqual([safe_room(lots, orders, (2, 6), lost=lost) for lost in [0, 1, 2, 3, 4]], [10, 4, -2, -6, -6])
        self.assertEqual(safe_room(lots, orders, (2, 4)), 4)
        self.assertEqual(safe_room(lost=1, pair=(2, 6), orders=orders, lots=lots), 4)
        self.assertEqual(safe_room([], [], (0, 0)), 0)
        self.assertEqual(safe_room([(1, 0, DAY, MANY)], [], (DAY, DAY), lost=0), MANY)
        self.assertEqual(safe_room([(1, 0, DAY, MANY)], [], (DAY, DAY), lost=10 ** 59), 0)

    def test_against_all_choices(self):
        seen = {}
        chance = random.Random(3)
        for lots, orders, kept in drawn_inputs(4, 250):
            for lost in [0, 1, 2, 3, len(lots), len(lots) + 1, 10 ** 20]:
                pair = chance.choice(pairs_to(LAST + 1))
                expected = min(plain_room(left, orders, pair) for _, left in choices(lots, lost))
                with self.subTest(lots=lots, orders=orders, lost=lost, pair=pair):
                    self.assertEqual(safe_room(lots, orders, pair, lost=lost), expected)
                    if lost == 1:
                        self.assertEqual(safe_room(lots, orders, pair), expected)
                seen[kept, expected > 0] = seen.get((kept, expected > 0), 0) + 1
        self.assertGreater(min(seen[key] for key in [(True, True), (True, False), (False, False)]), 50)

    def test_without_losses_it_is_the_room(self):
        for lots, orders, _ in drawn_inputs(5, 100):
            for pair in pairs_to(LAST + 1)[::3]:
                self.assertEqual(safe_room(lots, orders, pair, lost=0), room_for(lots, orders, pair))

    def test_an_order_of_the_safe_room_is_as_safe(self):
        tried = 0
        for lots, orders, _ in drawn_inputs(6, 300):
            for lost in [1, 2]:
                room = safe_room(lots, orders, (2, 3), lost=lost)
                if is_safe(lots, orders, lost=lost):
                    self.assertGreaterEqual(room, 0)
                    self.assertIs(is_safe(lots, [*orders, (99, 2, 3, room + 1)], lost=lost), False)
                    if room:
                        tried += 1
                        self.assertIs(is_safe(lots, [*orders, (99, 2, 3, room)], lost=lost), True)
        self.assertGreater(tried, 20)

    def test_the_number_is_passed_by_name(self):
        self.assertRaises(TypeError, safe_room, LOTS, ORDERS, (2, 4), 1)
        self.assertRaises(TypeError, is_safe, LOTS, ORDERS, 1)
        self.assertRaises(TypeError, worst_loss, LOTS, ORDERS, 1)


class IsSafeTest(unittest.TestCase):
    def test_some_promises(self):
        lots, orders = [(1, 0, 5, 10), (2, 0, 9, 4), (3, 0, 9, 6)], [(7, 2, 4, 4), (8, 2, 9, 4)]
        self.assertEqual([is_safe(lots, orders, lost=lost) for lost in [0, 1, 2, 3]], [True, True, False, False])
        self.assertIs(is_safe(lots, orders), True)
        self.assertIs(is_safe(lots=lots, orders=[(7, 2, 9, 5)]), False)
        self.assertIs(is_safe([], []), True)
        self.assertIs(is_safe([], [], lost=3), True)
        self.assertIs(is_safe([], [(1, 0, 0, 1)], lost=0), False)
        self.assertIs(is_safe(lots, [], lost=10 ** 59), True)
        self.assertIs(is_safe(lots, [(1, 0, 0, 1)], lost=10 ** 59), False)

    def test_against_all_choices(self):
        seen = {}
        for lots, orders, kept in drawn_inputs(7, 400):
            for lost in [0, 1, 2, 3, len(lots), len(lots) + 1, 10 ** 20]:
                expected = all(can_serve(left, orders) for _, left in choices(lots, lost))
                with self.subTest(lots=lots, orders=orders, lost=lost):
                    self.assertIs(is_safe(lots, orders, lost=lost), expected)
                    if lost == 1:
                        self.assertIs(is_safe(lots, orders), expected)
                    if expected:
                        for _, left in choices(lots, lost)[:3]:
                            self.assertTrue(is_plan(left, orders, make_plan(left, orders)))
                seen[kept, lost > 0, expected] = seen.get((kept, lost > 0, expected), 0) + 1
        self.assertGreater(min(seen.values()), 50)


class WorstLossTest(unittest.TestCase):
    def check(self, lots, orders, lost):
        """Check a worst loss against all choices and return its ids."""
        lacks = [(-plain_lack(left, orders), idents, left) for idents, left in choices(lots, lost)]
        least = min(lack for lack, _, _ in lacks)
        expected, left = [(idents, left) for lack, idents, left in lacks if lack == least][0]
        with self.subTest(lots=lots, orders=orders, lost=lost):
            found = worst_loss(lots, orders, lost=lost)
            self.assertIsInstance(found, tuple)
            self.assertIsInstance(found[1], Stairs)
            self.assertEqual(found, (expected, least_stairs(left, orders)))
            self.assertEqual(surplus(left, orders, found[1]), least)
            self.assertEqual(worst_losses(lots, orders, lost), (least, expected))
        return expected, sum(lack == least for lack, _, _ in lacks)

    def test_some_losses(self):
        lots, orders = [(3, 0, 5, 10), (2, 0, 9, 4), (4, 0, 9, 4)], [(7, 2, 4, 6), (8, 2, 9, 4)]
        self.assertEqual(worst_loss(lots, orders), ([3], Stairs((2, 4))))
        self.assertEqual(worst_loss(lots, orders[1:]), ([2], Stairs()))
        self.assertEqual(worst_loss(lots, orders, lost=0), ([], Stairs()))
        self.assertEqual(worst_loss(lots, orders, lost=2), ([2, 3], Stairs((2, 4))))
        self.assertEqual(worst_loss(lost=3, orders=orders, lots=lots), ([2, 3, 4], Stairs((2, 4))))
        self.assertEqual(worst_loss(lots, orders, lost=10 ** 59), ([2, 3, 4], Stairs((2, 4))))
        self.assertEqual(worst_loss(lots, [(7, 2, 4, 9)], lost=1), ([3], Stairs((2, 4))))
        self.assertEqual(worst_loss([], orders), ([], Stairs((2, 4))))
        self.assertEqual(worst_loss([], []), ([], Stairs()))

    def test_lots_that_suit_no_order(self):
        lots = [(1, 9, 9, 5), (2, 0, 1, 5), (3, 0, 5, 5), (4, 0, 5, 5), (5, 0, 9, 1)]
        orders = [(7, 2, 4, 10)]
        self.assertEqual(worst_loss(lots, orders)[0], [3])
        self.assertEqual(worst_loss(lots, orders, lost=2)[0], [3, 4])
        self.assertEqual(worst_loss(lots, orders, lost=3)[0], [3, 4, 5])
        self.assertEqual(worst_loss(lots, orders, lost=4)[0], [1, 3, 4, 5])
        self.assertEqual(worst_loss(lots, [(7, 2, 4, 6)], lost=2)[0], [3, 4])
        self.assertEqual(worst_loss(lots, [(7, 2, 4, 1)], lost=2)[0], [1, 2])
        self.assertEqual(worst_loss(lots, [], lost=3)[0], [1, 2, 3])

    def test_against_all_choices(self):
        seen = {}
        for lots, orders, kept in drawn_inputs(8, 500):
            for lost in [0, 1, 2, 3, len(lots), len(lots) + 1, 10 ** 20]:
                idents, equal = self.check(lots, orders, lost)
                key = (kept, equal > 1)
                seen[key] = seen.get(key, 0) + 1
                if lost == 1:
                    self.assertEqual(worst_loss(lots, orders)[0], idents)
        self.assertEqual(len(seen), 4)
        self.assertGreater(min(seen.values()), 100)

    def test_more_lots_and_longer_days(self):
        for lots, orders, _ in drawn_inputs(9, 60, most_lots=9, last=12):
            for lost in range(len(lots) + 2):
                self.check(lots, orders, lost)

    def test_the_least_staircase_among_all(self):
        chance = random.Random(10)
        every = staircases(pairs_to(3), 3)
        for lots, orders, _ in drawn_inputs(11, 60, most_lots=5, last=3):
            lost = chance.randint(0, 4)
            idents, stairs = worst_loss(lots, orders, lost=lost)
            found = [(plain_least(left, orders, every), gone) for gone, left in choices(lots, lost)]
            least = min(found, key=lambda one: (one[0][0], one[1]))
            self.assertEqual((idents, members(stairs, 3)), (least[1], least[0][1]))

    def test_another_sequence(self):
        chance = random.Random(12)
        for lots, orders, _ in drawn_inputs(13, 100):
            lots_then, orders_then = chance.sample(lots, len(lots)), chance.sample(orders, len(orders))
            for lost in [1, 2]:
                self.assertEqual(worst_loss(lots_then, orders_then, lost=lost), worst_loss(lots, orders, lost=lost))
                self.assertEqual(safe_room(lots_then, orders_then, (2, 4), lost=lost),
                                 safe_room(lots, orders, (2, 4), lost=lost))


class BlockersTest(unittest.TestCase):
    def test_some_blockers(self):
        lots, orders = [(1, 0, 5, 10), (2, 3, 9, 4)], [(9, 3, 5, 1), (7, 2, 4, 6), (8, 3, 9, 1)]
        self.assertEqual(room_stairs(lots, orders, (3, 5)).text, "2 4, 3 5")
        self.assertEqual(list(blockers(lots, orders, (3, 5))), [9, 7, 8])
        self.assertEqual(list(blockers(pair=(3, 6), orders=orders, lots=lots)), [8])
        self.assertEqual(list(blockers(lots, orders[::-1], (3, 5))), [8, 7, 9])
        self.assertEqual(list(blockers(lots, [], (3, 5))), [])
        self.assertEqual(list(blockers([], orders, (0, 0))), [9, 7, 8])
        self.assertEqual(list(blockers([(1, 0, 2, 5)], orders, (0, 0))), [9, 7, 8])
        self.assertEqual(list(blockers([(1, 0, 9, 8)], orders, (0, 0))), [9, 7, 8])
        self.assertEqual(list(blockers([(1, 0, 2, 5), (2, 1, 9, 8)], orders, (0, 0))), [])

    def test_it_yields(self):
        found = blockers(LOTS, ORDERS, (3, 5))
        self.assertIs(iter(found), found)
        self.assertEqual(next(found), 7)

    def test_against_the_staircase(self):
        seen = 0
        for lots, orders, _ in drawn_inputs(14, 300):
            for pair in pairs_to(LAST + 1)[::4]:
                inside = members(room_stairs(lots, orders, pair), LAST + 1)
                expected = [order[0] for order in orders if order[1:3] in inside]
                self.assertEqual(list(blockers(lots, orders, pair)), expected)
                seen += 0 < len(expected) < len(orders)
        self.assertGreater(seen, 100)

    def test_without_them_there_is_the_supply(self):
        for lots, orders, _ in drawn_inputs(15, 100):
            found = list(blockers(lots, orders, (2, 3)))
            stairs = room_stairs(lots, orders, (2, 3))
            others = [order for order in orders if order[0] not in found]
            self.assertEqual(surplus(lots, others, stairs), sum(lot[3] for lot in lots if lot[1:3] in stairs))


class ArgumentsTest(unittest.TestCase):
    def test_they_stay_as_they_are(self):
        lots, orders = copy.deepcopy(LOTS), copy.deepcopy(ORDERS)
        for _ in range(2):
            burden(lots, orders, 2)
            spare(lots, orders, 2)
            safe_room(lots, orders, (2, 4), lost=2)
            is_safe(lots, orders, lost=2)
            worst_loss(lots, orders, lost=2)[0].append(1)
            list(blockers(lots, orders, (2, 4)))
            self.assertEqual((lots, orders), (LOTS, ORDERS))


class GreatTest(unittest.TestCase):
    def test_one_lost_and_all_but_one_of_a_hundred(self):
        lots, orders = full_house(1, 60)
        orders = orders[:60]
        pair = (20, 30)
        for lost, left in [(1, lambda lot: [one for one in lots if one != lot]), (99, lambda lot: [lot])]:
            rests = [left(lot) for lot in lots]
            self.assertEqual(safe_room(lots, orders, pair, lost=lost),
                             min(room_for(rest, orders, pair) for rest in rests))
            sums = [surplus(rest, orders, least_stairs(rest, orders)) for rest in rests]
            gone = [sorted(lot[0] for lot in lots if lot not in rest) for rest in rests]
            self.assertEqual(worst_losses(lots, orders, lost), min(zip(sums, gone)))
            self.assertIs(is_safe(lots, orders, lost=lost), min(sums) == 0)

    def test_equal_pairs(self):
        chance = random.Random(16)
        lots = [(ident, 0, 9, chance.choice([5, 6, 7]) * MANY // 7) for ident in chance.sample(range(1, 999), 100)]
        orders = [(7, 3, 9, sum(lot[3] for lot in lots))]
        for lost in [1, 30, 50, 70, 99]:
            gone = sorted(sorted(lots, key=lambda lot: (-lot[3], lot[0]))[:lost])
            self.assertEqual(worst_losses(lots, orders, lost),
                             (-sum(lot[3] for lot in gone), [lot[0] for lot in gone]))

    def test_quick(self):
        lots, orders = full_house(2)
        for lost in [0, 1, 2, 20, 50, 80, 99, 100, 10 ** 59]:
            for call in [lambda: safe_room(lots, orders, (300, 600), lost=lost),
                         lambda: is_safe(lots, orders, lost=lost), lambda: worst_loss(lots, orders, lost=lost)]:
                self.assertLess(quickest(call), 0.6)
        for call in [lambda: burden(lots, orders, 50), lambda: spare(lots, orders, 50),
                     lambda: list(blockers(lots, orders, (300, 600)))]:
            self.assertLess(quickest(call), 0.3)

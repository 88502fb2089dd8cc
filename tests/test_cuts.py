"""Promise 9: what orders keep if there is no plan for all of them, and what shows it."""

import copy
import random
import unittest

from freshpromise.cuts import cut_stairs, cuts, is_kept, kept_amounts
from freshpromise.plans import is_plan, make_plan
from freshpromise.stairs import Stairs
from freshpromise.sums import room_for, room_stairs, surplus
from tests.helpers import (
    ODD_VALUES, can_serve, full_house, members, most_served, pairs_to, plain_kept, plain_least, plain_surplus,
    quickest, some_goods, staircases, with_ids)

DAY, MANY = 10 ** 6, 10 ** 9
LOTS, ORDERS = [(1, 0, 5, 10)], [(7, 2, 4, 6), (8, 3, 5, 7), (9, 1, 9, 1)]
AMOUNTS = [6, 4, 0]
SHOWN = [None, Stairs((2, 4), (3, 5)), Stairs((1, 9))]
LAST = 4
PAIRS = pairs_to(LAST)
ALL = staircases(PAIRS, LAST)


def small_inputs(seed, many):
    """Yield small lots and orders with drawn ids, so that orders are often cut."""
    chance = random.Random(seed)
    for _ in range(many):
        most = chance.choice([1, 2, 5])
        lots = some_goods(chance, chance.randint(0, 5), LAST, most)
        yield with_ids(lots, chance), with_ids(some_goods(chance, chance.randint(0, 5), LAST, most), chance)


def what_is_kept(orders, amounts):
    """Return the orders that keep something, with these amounts."""
    return [(*order[:3], amount) for order, amount in zip(orders, amounts) if amount]


def plain_cuts(lots, orders):
    """Return the amounts that orders keep, and the cuts with sets of pairs, by looking at all staircases."""
    amounts, found = [], []
    for order in orders:
        older = what_is_kept(orders, amounts)
        room, shared = plain_least(lots, older, [pairs for pairs in ALL if order[1:3] in pairs])
        amounts.append(min(order[3], room))
        if room < order[3]:
            found.append((order[0], order[3], room, shared))
    return amounts, found


def what_shows(lots, orders):
    """Return None or the staircase for each order."""
    stairs = {cut[0]: cut[3] for cut in cuts(lots, orders)}
    return [stairs.get(order[0]) for order in orders]


class KeptAmountsTest(unittest.TestCase):
    def test_the_example_of_the_document(self):
        self.assertEqual(kept_amounts(LOTS, ORDERS), [6, 4, 0])

    def test_nothing_there(self):
        self.assertEqual(kept_amounts([], []), [])
        self.assertEqual(kept_amounts(LOTS, []), [])
        self.assertEqual(kept_amounts([], ORDERS), [0, 0, 0])

    def test_all_keep_all_if_there_is_a_plan(self):
        self.assertEqual(kept_amounts([(1, 0, 9, 14)], ORDERS), [6, 7, 1])
        self.assertEqual(kept_amounts([(1, 0, 9, 13)], ORDERS), [6, 7, 0])

    def test_the_oldest_keep_first(self):
        self.assertEqual(kept_amounts(LOTS, ORDERS[::-1]), [0, 7, 3])
        self.assertEqual(kept_amounts(LOTS, [ORDERS[1], ORDERS[0], ORDERS[2]]), [7, 3, 0])

    def test_younger_orders_keep_what_older_ones_cannot_take(self):
        lots = [(1, 0, 3, 5), (2, 4, 9, 5)]
        self.assertEqual(kept_amounts(lots, [(1, 2, 3, 9), (2, 2, 3, 1), (3, 4, 8, 4), (4, 5, 5, 4)]), [5, 0, 4, 1])

    def test_one_by_one_over_all_staircases(self):
        for lots, orders in small_inputs(1, 400):
            with self.subTest(lots=lots, orders=orders):
                self.assertEqual(kept_amounts(lots, orders), plain_cuts(lots, orders)[0])

    def test_by_what_can_be_served(self):
        seen = 0
        for lots, orders in small_inputs(2, 600):
            amounts = kept_amounts(lots, orders)
            kept = what_is_kept(orders, amounts)
            seen += kept != orders
            with self.subTest(lots=lots, orders=orders):
                self.assertEqual(amounts, plain_kept(lots, orders))
                self.assertEqual(sum(amounts), most_served(lots, orders))
                self.assertIs(is_plan(lots, kept, make_plan(lots, kept)), True)
                self.assertEqual(kept == orders, can_serve(lots, orders))
        self.assertGreater(seen, 200)

    def test_each_one_keeps_the_least_of_its_amount_and_the_room(self):
        for lots, orders in small_inputs(3, 200):
            amounts = kept_amounts(lots, orders)
            for at, order in enumerate(orders):
                room = room_for(lots, what_is_kept(orders[:at], amounts), order[1:3])
                self.assertEqual(amounts[at], min(order[3], room))

    def test_great_amounts(self):
        lots = [(ident, 0, DAY, MANY) for ident in range(1, 51)]
        orders = [(ident, DAY, DAY, MANY) for ident in range(1, 101)]
        self.assertEqual(kept_amounts(lots, orders), [MANY] * 50 + [0] * 50)
        self.assertEqual(kept_amounts([(1, 0, DAY, MANY - 1)], orders[:2]), [MANY - 1, 0])

    def test_a_hundred_lots_and_orders(self):
        lots, orders = full_house(4)
        for some in [lots[:60], lots[:5], [], lots]:
            amounts = kept_amounts(some, orders)
            self.assertEqual(sum(amounts), most_served(some, orders))
            self.assertEqual(sum(amounts[:50]), most_served(some, orders[:50]))
            found = list(cuts(some, orders))
            less = [kept for kept, order in zip(amounts, orders) if kept < order[3]]
            self.assertEqual([cut[2] for cut in found], less)
            self.assertIs(is_kept(some, orders, amounts, what_shows(some, orders)), True)
        some = lots[:60]
        shown = what_shows(some, orders)
        amounts = kept_amounts(some, orders)
        self.assertLess(quickest(lambda: kept_amounts(some, orders)), 1)
        self.assertLess(quickest(lambda: list(cuts(some, orders))), 1)
        self.assertLess(quickest(lambda: cut_stairs(some, orders)), 1)
        self.assertLess(quickest(lambda: is_kept(some, orders, amounts, shown)), 1)


class CutsTest(unittest.TestCase):
    def test_the_example_of_the_document(self):
        self.assertEqual(list(cuts(LOTS, ORDERS)), [(8, 7, 4, SHOWN[1]), (9, 1, 0, SHOWN[2])])

    def test_no_cuts(self):
        self.assertEqual(list(cuts([], [])), [])
        self.assertEqual(list(cuts(LOTS, [])), [])
        self.assertEqual(list(cuts(LOTS, ORDERS[:1])), [])
        self.assertEqual(list(cuts([(1, 0, 9, 14)], ORDERS)), [])

    def test_all_that_can_be_cut(self):
        shown = [(7, 6, 0, Stairs((2, 4))), (8, 7, 0, Stairs((3, 5))), (9, 1, 0, Stairs((1, 9)))]
        self.assertEqual(list(cuts([], ORDERS)), shown)
        self.assertEqual(list(cuts([], ORDERS[::-1])), shown[::-1])

    def test_the_very_staircases(self):
        seen = 0
        for lots, orders in small_inputs(5, 300):
            expected = plain_cuts(lots, orders)[1]
            seen += len(expected)
            found = list(cuts(lots, orders))
            with self.subTest(lots=lots, orders=orders):
                self.assertEqual([(*cut[:3], members(cut[3], LAST)) for cut in found], expected)
                self.assertEqual([cut[3] for cut in found], [Stairs(*cut[3]) for cut in expected])
                self.assertTrue(all(isinstance(cut, tuple) and len(cut) == 4 for cut in found))
        self.assertGreater(seen, 200)

    def test_they_are_the_staircases_of_the_pairs(self):
        for lots, orders in small_inputs(6, 150):
            amounts = kept_amounts(lots, orders)
            places = {order[0]: at for at, order in enumerate(orders)}
            for ident, old, kept, stairs in cuts(lots, orders):
                older = what_is_kept(orders[:places[ident]], amounts)
                order = orders[places[ident]]
                self.assertEqual((old, kept), (order[3], amounts[places[ident]]))
                self.assertEqual(stairs, room_stairs(lots, older, order[1:3]))
                self.assertEqual(surplus(lots, older, stairs), kept)

    def test_they_come_one_after_the_other(self):
        found = cuts(LOTS, ORDERS)
        self.assertIs(iter(found), found)
        self.assertEqual([next(found)[0], next(found)[0], next(found, None)], [8, 9, None])


class CutStairsTest(unittest.TestCase):
    def test_the_pairs_of_all(self):
        self.assertEqual(cut_stairs(LOTS, ORDERS), Stairs((2, 4), (3, 5)))
        self.assertEqual(cut_stairs([], ORDERS), Stairs((2, 4), (3, 5)))
        self.assertEqual(cut_stairs(LOTS, ORDERS[2:]), Stairs((1, 9)))

    def test_no_cuts(self):
        for lots, orders in [([], []), (LOTS, []), (LOTS, ORDERS[:1])]:
            self.assertEqual(cut_stairs(lots, orders), Stairs())
            self.assertIsInstance(cut_stairs(lots, orders), Stairs)

    def test_it_shows_that_no_more_can_be_kept(self):
        for lots, orders in small_inputs(7, 300):
            amounts, found = plain_cuts(lots, orders)
            pairs = frozenset().union(*[cut[3] for cut in found])
            stairs = cut_stairs(lots, orders)
            with self.subTest(lots=lots, orders=orders):
                self.assertEqual(members(stairs, LAST), pairs)
                self.assertEqual(stairs, Stairs(*pairs))
                self.assertEqual(plain_surplus(lots, what_is_kept(orders, amounts), pairs), 0)
                for order, amount in zip(orders, amounts):
                    self.assertTrue(order[1:3] in stairs or amount == order[3])


class IsKeptTest(unittest.TestCase):
    def check(self, amounts, shown, expected, lots=LOTS, orders=ORDERS):
        with self.subTest(amounts=amounts, shown=shown, lots=lots, orders=orders):
            self.assertIs(is_kept(lots, orders, amounts, shown), expected)

    def test_right_amounts_and_staircases(self):
        self.check(AMOUNTS, SHOWN, True)
        self.check([6, 7, 1], [None, None, None], True, [(1, 0, 9, 14)])
        self.check([0, 0, 0], [Stairs((2, 4)), Stairs((3, 5)), Stairs((1, 9))], True, [])
        self.check([], [], True, LOTS, [])
        self.check([], [], True, [], [])

    def test_other_staircases_of_the_same_surplus(self):
        for stairs in [Stairs((3, 4)), Stairs((2, 4), (3, 5)), Stairs((DAY, DAY), (3, 3)),
                       Stairs((2, 4), (4, 5), (8, 9))]:
            self.check(AMOUNTS, [None, stairs, SHOWN[2]], True)
        for stairs in [Stairs((0, 6), (1, 9)), Stairs((3, 4)), Stairs((3, 5), (2, 4), (7, 8)), Stairs((1, 6))]:
            self.check(AMOUNTS, [None, SHOWN[1], stairs], True)

    def test_staircases_of_another_surplus(self):
        for stairs in [Stairs((3, 5)), Stairs((3, 5), (1, 4)), Stairs((4, 5)), Stairs((DAY, DAY), (3, 5))]:
            self.check(AMOUNTS, [None, stairs, SHOWN[2]], False)
        self.check(AMOUNTS, [None, SHOWN[1], Stairs((1, 5))], False)

    def test_staircases_without_the_pair(self):
        self.check(AMOUNTS, [None, Stairs((2, 4)), SHOWN[2]], False)
        self.check(AMOUNTS, [None, Stairs((2, 4), (3, 6)), SHOWN[2]], False)
        self.check(AMOUNTS, [None, SHOWN[1], Stairs()], False)
        self.check(AMOUNTS, [None, SHOWN[1], Stairs((0, 9))], False)
        self.check(AMOUNTS, [None, SHOWN[1], Stairs((1, 10))], False)

    def test_amounts_changed(self):
        for amounts in [[6, 4, 1], [6, 3, 0], [6, 5, 0], [5, 5, 0], [5, 4, 0], [7, 4, 0], [6, 4, -1], [6, -4, 0],
                        [0, 10, 0], [3, 7, 0], [6, 7, 1], [6, 10 ** 59, 0], [6, 4, -10 ** 59]]:
            for shown in [SHOWN, [None, None, None], [None, SHOWN[1], None], [None, None, SHOWN[2]],
                          [Stairs((2, 4)), SHOWN[1], SHOWN[2]]]:
                self.check(amounts, shown, False)

    def test_none_only_for_orders_that_keep_all(self):
        self.check(AMOUNTS, [None, None, SHOWN[2]], False)
        self.check(AMOUNTS, [None, SHOWN[1], None], False)
        self.check(AMOUNTS, [Stairs((2, 4)), SHOWN[1], SHOWN[2]], False)
        self.check([6], [None], True, [(1, 0, 5, 6)], ORDERS[:1])
        self.check([6], [Stairs((2, 4))], False, [(1, 0, 5, 6)], ORDERS[:1])

    def test_more_than_was_ordered(self):
        self.check([10], [Stairs((2, 4))], False, LOTS, ORDERS[:1])
        self.check([6], [None], True, LOTS, ORDERS[:1])

    def test_no_plan_for_what_is_kept(self):
        self.check([6, 7, 0], [None, None, Stairs((1, 9))], False)
        self.check([6], [None], False, [(1, 0, 5, 5)], ORDERS[:1])
        lots, orders = [(1, 0, 9, 4), (2, 4, 9, 5)], [(1, 0, 9, 3), (2, 4, 4, 8), (3, 0, 3, 2)]
        self.check([3, 6, 0], [None, Stairs((4, 4)), Stairs((0, 3), (4, 4))], True, lots, orders)
        self.check([3, 6, 1], [None, Stairs((4, 4)), Stairs((0, 3))], False, lots, orders)

    def test_amounts_below_zero_do_not_balance_others(self):
        lots, orders = [(1, 0, 5, 5)], [(7, 2, 4, 6), (8, 2, 4, 3)]
        self.check([6, -1], [None, Stairs((2, 4))], False, lots, orders)
        self.check([6, 0], [None, Stairs((2, 4))], False, lots, orders)
        self.check([5, 0], [Stairs((2, 4)), Stairs((2, 4))], True, lots, orders)

    def test_moved_and_removed(self):
        self.check([4, 6, 0], SHOWN, False)
        self.check([6, 0, 4], SHOWN, False)
        self.check(AMOUNTS, [SHOWN[1], None, SHOWN[2]], False)
        self.check(AMOUNTS, [None, SHOWN[2], SHOWN[1]], True, orders=[ORDERS[0], (8, 0, 9, 5), (9, 2, 4, 1)],
                   lots=[(1, 0, 5, 6), (2, 0, 9, 4)])

    def test_lists_that_are_too_short_or_too_long(self):
        for amounts, shown in [([], []), ([6], [None]), (AMOUNTS[:2], SHOWN[:2]), (AMOUNTS, SHOWN[:2]),
                               (AMOUNTS[:2], SHOWN), (AMOUNTS, []), ([], SHOWN), ([*AMOUNTS, 0], SHOWN),
                               (AMOUNTS, [*SHOWN, None]), ([*AMOUNTS, 0], [*SHOWN, None]),
                               ([*AMOUNTS, 0], [*SHOWN, SHOWN[2]])]:
            self.check(amounts, shown, False)
        self.check([0], [None], False, LOTS, [])
        self.check([0], [], False, [], [])
        self.check([], [None], False, [], [])

    def test_other_values_in_place_of_an_amount(self):
        for value in [*ODD_VALUES, (4,), [4], "4", Stairs((3, 4))]:
            for at in range(3):
                amounts = list(AMOUNTS)
                amounts[at] = value
                self.check(amounts, SHOWN, False)
        lots, orders = [(1, 0, 5, 1)], [(7, 2, 4, 1), (8, 2, 4, 1)]
        self.check([1, 0], [None, Stairs((2, 4))], True, lots, orders)
        self.check([True, 0], [None, Stairs((2, 4))], False, lots, orders)
        self.check([1, False], [None, Stairs((2, 4))], False, lots, orders)

    def test_other_values_in_place_of_a_staircase(self):
        for value in [*ODD_VALUES, 4, 0, (3, 4), [(3, 4)], "3 4", {(3, 4): True}]:
            for at in [1, 2]:
                shown = list(SHOWN)
                shown[at] = value
                self.check(AMOUNTS, shown, False)
            if value is not None:
                self.check(AMOUNTS, [value, *SHOWN[1:]], False)

    def test_drawn_inputs(self):
        chance = random.Random(8)
        seen = {True: 0, False: 0}
        for lots, orders in small_inputs(9, 600):
            amounts, shown = kept_amounts(lots, orders), what_shows(lots, orders)
            self.check(amounts, shown, True, lots, orders)
            if not orders:
                continue
            at = chance.randrange(len(orders))
            wrong = list(amounts)
            wrong[at] += chance.choice([-1, 1])
            self.check(wrong, shown, False, lots, orders)
            other = list(shown)
            pairs = chance.choice(ALL)
            other[at] = Stairs(*pairs)
            older = what_is_kept(orders[:at], amounts)
            expected = (orders[at][1:3] in pairs and plain_surplus(lots, older, pairs) == amounts[at]
                        and amounts[at] < orders[at][3])
            seen[expected] += 1
            self.check(amounts, other, expected, lots, orders)
        self.assertGreater(min(seen.values()), 30)

    def test_only_the_right_amounts_can_be_shown(self):
        chance = random.Random(10)
        for lots, orders in small_inputs(11, 400):
            amounts, right = [], kept_amounts(lots, orders)
            shown = []
            for order in orders:
                older = what_is_kept(orders, amounts)
                pairs = chance.choice([pairs for pairs in ALL if order[1:3] in pairs])
                asked = plain_surplus(lots, older, pairs)
                whole = asked >= order[3] or chance.random() < 0.2
                amounts.append(order[3] if whole else max(0, asked))
                shown.append(None if whole else Stairs(*pairs))
            if is_kept(lots, orders, amounts, shown):
                self.assertEqual(amounts, right)


class ArgumentsTest(unittest.TestCase):
    def test_they_stay_as_they_are(self):
        lots, orders, amounts, shown = copy.deepcopy([LOTS, ORDERS, AMOUNTS, SHOWN])
        for _ in range(2):
            kept_amounts(lots, orders).append(1)
            list(cuts(lots, orders))
            cut_stairs(lots, orders)
            is_kept(lots, orders, amounts, shown)
            is_kept(lots, orders, amounts[:2], shown)
            self.assertEqual([lots, orders, amounts, shown], [LOTS, ORDERS, AMOUNTS, SHOWN])

    def test_the_list_is_the_callers(self):
        kept_amounts([], ORDERS).clear()
        kept_amounts(LOTS, ORDERS[:1]).clear()
        self.assertEqual(kept_amounts(LOTS, ORDERS), AMOUNTS)

    def test_by_name(self):
        self.assertEqual(kept_amounts(orders=ORDERS, lots=LOTS), AMOUNTS)
        self.assertEqual([cut[0] for cut in cuts(orders=ORDERS, lots=LOTS)], [8, 9])
        self.assertEqual(cut_stairs(orders=ORDERS, lots=LOTS), SHOWN[1])
        self.assertIs(is_kept(shown=SHOWN, amounts=AMOUNTS, orders=ORDERS, lots=LOTS), True)

"""Promises 10 and 13: undo and redo, houses that are made and copied, and long sequences of changes."""

import random
import unittest

from freshpromise.house import House
from freshpromise.plans import is_plan, make_plan
from freshpromise.stairs import Stairs
from tests.helpers import some_goods
from tests.models import PlainHouse, answer, history, parts

DAY = 10 ** 6

CHANGES = [
    ("add_lot", [2, 1, 8, 5]), ("accept", [4, 1, 5, 2]), ("cancel", [7]), ("lessen", [8, 1]),
    ("change_lot", [1, 0, 5, 4]), ("recall", [1]), ("close_day", []),
    # These leave everything but the day as it was.
    ("change_lot", [1, 0, 5, 10]),
]


def some_house():
    """Return a house with nothing to undo or redo."""
    return House.made(0, [(1, 0, 5, 10)], [(7, 2, 4, 6), (8, 0, 3, 2)])


class UndoTest(unittest.TestCase):
    def test_nothing_to_do(self):
        for house in [House(), House(today=5), some_house(), some_house().copied()]:
            before = parts(house)
            self.assertEqual(answer(house.undo), ["NothingToDo", "undo"])
            self.assertEqual(answer(house.redo), ["NothingToDo", "redo"])
            self.assertEqual(history(house), [[before], [], []])

    def test_every_change(self):
        for call, values in CHANGES:
            with self.subTest(call, values=values):
                house = some_house()
                before = parts(house)
                getattr(house, call)(*values)
                behind = parts(house)
                for _ in range(2):
                    self.assertEqual(history(house), [[behind], [before], []])
                    self.assertIsNone(house.undo())
                    self.assertEqual(history(house), [[before], [], [behind]])
                    self.assertEqual(answer(house.undo), ["NothingToDo", "undo"])
                    self.assertIsNone(house.redo())
                self.assertEqual(answer(house.redo), ["NothingToDo", "redo"])

    def test_a_change_that_leaves_everything_as_it_was(self):
        house = some_house()
        house.change_lot(1, 0, 5, 10)
        house.change_lot(1, 0, 5, 10)
        house.undo()
        self.assertEqual(history(house), [[parts(house)], [parts(house)], [parts(house)]])
        house.undo()
        house.change_lot(1, 0, 5, 10)
        self.assertEqual(history(house), [[parts(house)], [parts(house)], []])

    def test_a_change_behind_undo_leaves_nothing_to_redo(self):
        for call, values in CHANGES:
            house = some_house()
            house.lessen(7, 3)
            house.lessen(8, 1)
            house.undo()
            house.undo()
            before = parts(house)
            getattr(house, call)(*values)
            self.assertEqual(history(house), [[parts(house)], [before], []])

    def test_calls_that_change_nothing_leave_all_to_redo(self):
        house = some_house()
        house.lessen(7, 3)
        house.lessen(8, 1)
        house.undo()
        before = history(house)
        self.assertEqual([len(ways) for ways in before], [1, 1, 1])
        for call, values in [("add_lot", [1, 0, 5, 10]), ("accept", [7, 0, 5, 1]), ("accept", [9, 0, 5, 100]),
                             ("cancel", [9]), ("lessen", [7, 3]), ("change_lot", [2, 0, 5, 1]), ("recall", [2]),
                             ("cuts_if", [1, 0, 5, 1]), ("cuts_if_recalled", [1]), ("cuts_if", [1, 0, 5, 0]),
                             ("cuts_if_recalled", [2]), ("copied", []), ("same", [house]), ("room", [0, 1]),
                             ("room", [1, 0]), ("lot", [1]), ("order", [9])]:
            answer(getattr(house, call), *values)
            self.assertEqual(history(house), before)
        house.redo()
        self.assertEqual(parts(house), before[2][0])

    def test_closing_the_last_day_leaves_all_to_redo(self):
        house = House(today=DAY)
        house.add_lot(1, 0, DAY, 5)
        house.undo()
        self.assertEqual(answer(house.close_day), ["BadDay", DAY + 1])
        self.assertEqual(history(house), [[(DAY, [], [])], [], [(DAY, [(1, 0, DAY, 5)], [])]])

    def test_there_is_no_limit(self):
        house = House()
        states = [parts(house)]
        for many in range(1, 3001):
            if many == 1:
                house.add_lot(1, 0, 9, 5000)
            else:
                house.change_lot(1, 0, 9, many)
            states.append(parts(house))
        for state in reversed(states[:-1]):
            house.undo()
            self.assertEqual(parts(house), state)
        self.assertEqual(answer(house.undo), ["NothingToDo", "undo"])
        for state in states[1:]:
            house.redo()
            self.assertEqual(parts(house), state)
        self.assertEqual(answer(house.redo), ["NothingToDo", "redo"])

    def test_lists_that_were_handed_out_do_not_come_back(self):
        house = some_house()
        before = parts(house)
        lots, orders = house.lots, house.orders
        found = house.change_lot(1, 0, 5, 1)
        lots.clear()
        orders.clear()
        house.lots.clear()
        house.orders.clear()
        found.clear()
        house.undo()
        self.assertEqual(parts(house), before)
        house.redo()
        self.assertEqual(parts(house), (0, [(1, 0, 5, 1)], [(7, 2, 4, 1)]))


class MadeTest(unittest.TestCase):
    def test_a_house_with_these_parts(self):
        house = House.made(3, [(2, 9, 9, 9), (5, 0, 3, 4)], [(9, 4, 5, 1), (1, 9, 9, 2)])
        self.assertIsInstance(house, House)
        self.assertEqual(history(house), [[(3, [(2, 9, 9, 9), (5, 0, 3, 4)], [(9, 4, 5, 1), (1, 9, 9, 2)])], [], []])
        self.assertEqual(parts(House.made(orders=[], lots=[], today=DAY)), (DAY, [], []))

    def test_lots_by_ascending_ids(self):
        house = House.made(0, [(5, 0, 3, 4), (2, 9, 9, 9), (3, 0, 3, 4)], [])
        self.assertEqual([lot[0] for lot in house.lots], [2, 3, 5])

    def test_lists_handed_in_are_copied(self):
        lots, orders = [(5, 0, 3, 4), (2, 9, 9, 9)], [(9, 4, 5, 1), (1, 9, 9, 2)]
        house = House.made(0, lots, orders)
        self.assertEqual([lots, orders], [[(5, 0, 3, 4), (2, 9, 9, 9)], [(9, 4, 5, 1), (1, 9, 9, 2)]])
        lots.clear()
        orders.clear()
        self.assertEqual(parts(house), (0, [(2, 9, 9, 9), (5, 0, 3, 4)], [(9, 4, 5, 1), (1, 9, 9, 2)]))

    def test_what_is_done_with_it(self):
        house = some_house()
        house.accept(9, 3, 4, 2)
        self.assertEqual(house.close_day(), [(8, 1, 2)])
        self.assertEqual(parts(house), (1, [(1, 0, 5, 8)], [(7, 2, 4, 6), (9, 3, 4, 2)]))
        house.undo()
        house.undo()
        self.assertEqual(answer(house.undo), ["NothingToDo", "undo"])
        self.assertTrue(house.same(some_house()))

    def test_copies_are_apart(self):
        house = some_house()
        house.lessen(7, 3)
        house.lessen(8, 1)
        house.undo()
        before = history(house)
        twin = house.copied()
        self.assertIsInstance(twin, House)
        self.assertEqual(history(twin), [[parts(house)], [], []])
        twin.add_lot(2, 0, 3, 1)
        twin.recall(1)
        twin.close_day()
        self.assertEqual(history(house), before)
        twin = house.copied()
        house.undo()
        house.recall(1)
        self.assertEqual(history(twin), [before[0], [], []])

    def test_same(self):
        lots, orders = [(1, 0, 5, 10), (2, 0, 9, 4)], [(7, 2, 4, 6), (8, 2, 4, 3)]
        house = House.made(0, lots, orders)
        for other in [house, house.copied(), House.made(0, lots[::-1], orders)]:
            self.assertIs(house.same(other), True)
            self.assertIs(other.same(other=house), True)
        for other in [House(), House.made(1, lots, orders), House.made(0, lots[1:], orders),
                      House.made(0, lots, orders[1:]), House.made(0, lots, orders[::-1]),
                      House.made(0, [*lots, (3, 1, 1, 1)], orders), House.made(0, [(1, 0, 5, 9), lots[1]], orders),
                      House.made(0, lots, [(7, 2, 4, 5), orders[1]]), House.made(0, lots, [])]:
            self.assertIs(house.same(other), False)
            self.assertIs(other.same(house), False)

    def test_what_can_be_undone_does_not_count(self):
        house = some_house()
        house.lessen(7, 3)
        self.assertIs(house.same(some_house()), False)
        house.undo()
        self.assertIs(house.same(some_house()), True)
        self.assertIs(House().same(House(today=0)), True)


def drawn_values(chance, call, today):
    """Return drawn arguments for a call, wrong ones, too."""
    ident = chance.choice([1, 2, 3, 4, 5, 6, 0, True]) if chance.random() < 0.9 else chance.choice([None, "1", [2]])
    day = chance.randint(today - 2, today + 4) if call in ["accept", "room"] else chance.randint(-1, today + 3)
    keeps = day + chance.randint(-1, 5)
    amount = chance.randint(0, 8)
    if call in ["add_lot", "accept", "change_lot", "cuts_if"]:
        return [ident, day, keeps, amount]
    return {"room": [day, keeps], "lessen": [ident, amount]}.get(call, [ident])


class SequencesTest(unittest.TestCase):
    CALLS = ["add_lot"] * 5 + ["accept"] * 7 + ["undo"] * 3 + ["redo"] * 3 + [
        "cancel", "lessen", "lessen", "change_lot", "change_lot", "change_lot", "recall", "close_day", "room", "room",
        "cuts_if", "cuts_if_recalled"]
    CHANGES = ["add_lot"] * 3 + ["accept"] * 3 + ["cancel", "lessen", "change_lot", "recall", "close_day"]

    def check_history(self, house, plain):
        found = history(house)
        self.assertEqual(found[0], [parts(plain)])
        for ways, states in zip(found[1:], [plain.back, plain.forth]):
            lots = [[stock[ident] for ident in sorted(stock)] for _, stock, _ in states]
            expected = [(state[0], some, state[2]) for state, some in zip(states, lots)]
            self.assertEqual(ways, expected[::-1])

    def check_promises(self, house):
        self.assertIs(is_plan(house.lots, house.orders, make_plan(house.lots, house.orders)), True)
        self.assertTrue(all(lot[2] >= house.today for lot in house.lots))
        self.assertTrue(all(order[1] >= house.today for order in house.orders))

    def run_sequence(self, seed, many):
        chance = random.Random(seed)
        house, plain = House(), PlainHouse()
        seen = {}
        for step in range(many):
            call = chance.choice(self.CALLS)
            values = [] if call in ["undo", "redo", "close_day"] else drawn_values(chance, call, house.today)
            found = answer(getattr(house, call), *values)
            with self.subTest(seed=seed, step=step, call=call, values=values):
                self.assertEqual(found, getattr(plain, call)(*values))
                self.assertEqual(parts(house), parts(plain))
                self.check_promises(house)
            kind = found[0] if isinstance(found, list) and found and isinstance(found[0], str) else bool(found)
            seen[call, kind] = seen.get((call, kind), 0) + 1
            if step % 50 == 0:
                self.check_history(house, plain)
        return seen

    def test_drawn_changes(self):
        seen = {}
        for seed in range(12):
            for key, many in self.run_sequence(seed, 300).items():
                seen[key] = seen.get(key, 0) + many
        for key in [("add_lot", False), ("add_lot", "BadGoods"), ("add_lot", "TakenId"), ("accept", False),
                    ("accept", "BadGoods"), ("accept", "TakenId"), ("accept", "NoRoom"), ("cancel", False),
                    ("cancel", "UnknownId"), ("lessen", False), ("lessen", "UnknownId"), ("lessen", "BadGoods"),
                    ("change_lot", False), ("change_lot", True), ("change_lot", "UnknownId"),
                    ("change_lot", "BadGoods"), ("recall", False), ("recall", True), ("recall", "UnknownId"),
                    ("close_day", False), ("close_day", True), ("undo", False), ("undo", "NothingToDo"),
                    ("redo", False), ("redo", "NothingToDo"), ("room", False), ("room", True), ("room", "BadDay"),
                    ("cuts_if", True), ("cuts_if_recalled", True)]:
            self.assertGreater(seen.get(key, 0), 1, key)

    def test_there_and_back(self):
        chance = random.Random(20)
        house = House()
        states = [parts(house)]
        while len(states) < 400:
            call = chance.choice(self.CHANGES)
            values = [] if call == "close_day" else drawn_values(chance, call, house.today)
            before = parts(house)
            try:
                getattr(house, call)(*values)
            except ValueError:
                self.assertEqual(parts(house), before)
            else:
                states.append(parts(house))
        self.assertEqual(history(house), [states[-1:], states[-2::-1], []])
        for _ in range(200):
            house.undo()
        self.assertEqual(history(house), [states[199:200], states[198::-1], states[200:]])

    def test_many_lots_and_orders(self):
        chance = random.Random(21)
        house = House()
        for ident, day, keeps, amount in some_goods(chance, 100, 40, 10 ** 9):
            house.add_lot(ident, day, keeps, amount)
        for ident, day, keeps, amount in some_goods(chance, 400, 40, 10 ** 9):
            if len(house.orders) < 100 and house.room(day, keeps) >= amount:
                house.accept(ident, day, keeps, amount)
        before = parts(house)
        self.assertGreater(len(house.orders), 60)
        for ident in range(1, 101, 9):
            found = house.cuts_if_recalled(ident)
            self.assertEqual(house.recall(ident), found)
            self.assertTrue(all(isinstance(cut[3], Stairs) and cut[2] < cut[1] for cut in found))
            self.check_promises(house)
        for _ in range(10):
            house.close_day()
            self.check_promises(house)
        for _ in range(22):
            house.undo()
        self.assertEqual(parts(house), before)

"""Promise 17: the console, its commands and its errors."""

import random
import unittest

from freshpromise.console import Console
from freshpromise.errors import BadCommand
from freshpromise.house import House
from freshpromise.offers import longest_keeping, offer
from freshpromise.plans import is_plan, make_plan
from freshpromise.stairs import Stairs
from freshpromise.sums import room_stairs
from freshpromise.texts import house_text, read_house
from tests.helpers import ODD_VALUES, full_house, plain_plan, quickest
from tests.models import answer
from tests.readers import COMMANDS, PlainConsole, changed, listed, plain_command

DAY, MANY = 10 ** 6, 10 ** 9

START = ["new 2", "lot 5 0 9 22", "lot 1 3 6 10", "order 7 4 6 8", "order 3 2 9 5", "order 9 5 6 17"]
TEXT = "house 2\nlot 1 3 6 10\nlot 5 0 9 22\norder 7 4 6 8\norder 3 2 9 5\norder 9 5 6 17"


def started(commands=START):
    """Return a console that has executed some commands."""
    console = Console()
    for command in commands:
        console(command)
    return console


def twin():
    """Return a house with the changes of the console at the start."""
    house = House(today=2)
    house.add_lot(5, 0, 9, 22)
    house.add_lot(1, 3, 6, 10)
    house.accept(7, 4, 6, 8)
    house.accept(3, 2, 9, 5)
    house.accept(9, 5, 6, 17)
    return house


def told(console):
    """Return the text of the house, and those of the houses that can be undone and redone; nothing is changed."""
    texts = [console("save")]
    for step, back in [("undo", "redo"), ("redo", "undo")]:
        texts.append([])
        while answer(console, step) == "ok":
            texts[-1].append(console("save"))
        for _ in texts[-1]:
            console(back)
    return texts


class CommandsTest(unittest.TestCase):
    def test_the_example_of_the_document(self):
        console = Console()
        self.assertEqual(console("lot 1 0 5 10"), "ok")
        self.assertEqual(console("order 7 2 4 6"), "ok")
        self.assertEqual(console("recall 1"), "ok 7 6 -> 0")

    def test_at_first(self):
        console = Console()
        self.assertEqual(told(console), ["house 0", [], []])
        self.assertEqual(console("room 0 0"), "0")
        self.assertEqual(console("plan"), "none")

    def test_by_name(self):
        console = Console()
        self.assertEqual(console(command="lot 1 0 5 10"), "ok")
        self.assertEqual(console(command="save"), "house 0\nlot 1 0 5 10")
        self.assertRaises(TypeError, Console, 1)

    def test_new(self):
        console = started()
        self.assertEqual(console("new 7"), "ok")
        self.assertEqual(told(console), ["house 7", [], []])
        self.assertEqual(console("new 1000000"), "ok")
        self.assertEqual(console("new 0"), "ok")
        self.assertEqual(told(console), ["house 0", [], []])
        console("lot 1 0 5 10")
        console("undo")
        console("new 0")
        self.assertEqual(told(console), ["house 0", [], []])

    def test_changes(self):
        console = started()
        self.assertEqual(console("save"), TEXT)
        self.assertEqual(console("lot 4 8 8 1"), "ok")
        self.assertEqual(console("order 2 8 8 1"), "ok")
        self.assertEqual(console("less 9 16"), "ok")
        self.assertEqual(console("cancel 3"), "ok")
        self.assertEqual(console("save"), "house 2\nlot 1 3 6 10\nlot 4 8 8 1\nlot 5 0 9 22\n"
                                          "order 7 4 6 8\norder 9 5 6 16\norder 2 8 8 1")
        for _ in range(4):
            self.assertEqual(console("undo"), "ok")
        self.assertEqual(console("save"), TEXT)
        for _ in range(4):
            self.assertEqual(console("redo"), "ok")
        self.assertEqual(answer(console, "redo"), ["NothingToDo", "redo"])
        self.assertEqual(console("save").count("\n"), 6)

    def test_cuts(self):
        console = started()
        self.assertEqual(console("change 5 7 12 30"), "ok 3 5 -> 0, 9 17 -> 2")
        self.assertEqual(console("save"), "house 2\nlot 1 3 6 10\nlot 5 7 12 30\norder 7 4 6 8\norder 9 5 6 2")
        self.assertEqual(console("change 5 0 12 30"), "ok")
        self.assertEqual(console("recall 5"), "ok")
        self.assertEqual(console("recall 1"), "ok 7 8 -> 0, 9 2 -> 0")
        self.assertEqual(console("save"), "house 2")

    def test_closing_days(self):
        console = started()
        self.assertEqual(console("close"), "ok 3 5 5")
        self.assertEqual(console("close"), "ok")
        self.assertEqual(console("close"), "ok 7 1 8")
        self.assertEqual(console("close"), "ok 9 1 2, 9 5 15")
        self.assertEqual(console("save"), "house 6\nlot 5 0 9 2")
        self.assertEqual(console("undo"), "ok")
        self.assertEqual(console("save"), "house 5\nlot 1 3 6 2\nlot 5 0 9 17\norder 9 5 6 17")

    def test_rooms_and_stairs(self):
        console, house = started(), twin()
        for day in range(2, 12):
            for keeps in range(day, 12):
                self.assertEqual(console(f"room {day} {keeps}"), str(house.room(day, keeps)))
                stairs = room_stairs(house.lots, house.orders, (day, keeps))
                self.assertEqual(console(f"stairs {day} {keeps}"), stairs.text)
        self.assertEqual(console("stairs 2 9"), "5 6")
        self.assertEqual(started(["lot 1 0 5 10", "lot 2 3 9 4", "order 7 2 4 6"])("stairs 3 5"), "2 4, 3 5")
        self.assertEqual(console("stairs 1000000 1000000"), "1000000 1000000")

    def test_offers(self):
        console = started(["lot 1 0 5 10", "lot 2 3 9 4", "order 7 3 8 2", "close"])
        self.assertEqual(console("offer 0 5 10"), "0")
        self.assertEqual(console("offer 1 2 11"), "3")
        self.assertEqual(console("offer 1 2 13"), "none")
        self.assertEqual(console("offer 0 0 1000000000"), "none")
        self.assertEqual(console("offer 0 " + "9" * 60 + " 1"), "none")
        self.assertEqual(console("longest 3 3"), "5")
        self.assertEqual(console("longest 0 10"), "5")
        self.assertEqual(console("longest 3 2"), "9")
        self.assertEqual(console("longest 3 13"), "none")
        self.assertEqual(console("longest 1000000 1"), "none")
        house = read_house(console("save"))
        for day in range(7):
            for amount in range(1, 15):
                for span in range(7):
                    found = offer(house.lots, house.orders, day, span, amount)
                    self.assertEqual(console(f"offer {day} {span} {amount}"), "none" if found is None else str(found))
                found = longest_keeping(house.lots, house.orders, day, amount)
                self.assertEqual(console(f"longest {day} {amount}"), "none" if found is None else str(found))

    def test_plan(self):
        console = started()
        self.assertEqual(console("plan"), "3 5 5, 7 1 8, 9 1 2, 9 5 15")
        console("recall 1")
        self.assertEqual(console("plan"), "3 5 5, 7 5 8, 9 5 9")
        for ident in [3, 7, 9]:
            console(f"cancel {ident}")
        self.assertEqual(console("plan"), "none")

    def test_save(self):
        console = started()
        self.assertEqual(console("save"), house_text(twin()))
        self.assertTrue(read_house(console("save")).same(twin()))

    def test_questions_leave_all_as_it_was(self):
        console = started([*START, "lot 8 8 8 8", "less 9 3", "undo", "undo"])
        before = told(console)
        self.assertEqual([len(texts) for texts in before[1:]], [5, 2])
        for command in ["room 2 5", "stairs 2 5", "offer 2 3 5", "longest 2 5", "plan", "save"]:
            console(command)
            self.assertEqual(told(console), before)

    def test_consoles_are_apart(self):
        first, second = Console(), Console()
        first("lot 1 0 5 10")
        first("new 3")
        self.assertEqual(told(second), ["house 0", [], []])


WRONG = [
    "", " ", "\n", "  ", "hello", "Lot 1 0 5 10", "LOT 1 0 5 10", "lots 1 0 5 10", "shelf 1", "house 0", "None", "0",
    "1 0 5 10", "lot", "lot ", "lot 1 0 5", "lot 1 0 5 10 1", "lot 1 0 5 10 ", " lot 1 0 5 10", "lot  1 0 5 10",
    "lot 1  0 5 10", "lot 1 0 5  10", "lot 1 0 5 10\n", "\nlot 1 0 5 10", "lot 1 0\n5 10", "lot\n1 0 5 10",
    "lot,1,0,5,10", "lot 1, 0, 5, 10", "lot 1 0 5 x", "lot x 0 5 10", "lot 01 0 5 10", "lot 1 00 5 10",
    "lot 1 0 +5 10", "lot 1 0 5 -10", "lot -1 0 5 10", "lot 1 0 5 10.0", "lot 1 0 5 1_0", "lot 1 0 5 " + "1" * 61,
    "lot 1 0 5 0" + "1" * 60, "lot 1 0 5 \u0661", "lot 1 0 5 \u00b2", "lot 1 0 5 None", "lot 1 0 5 True",
    "order", "order 7 2 4", "order 7 2 4 6 1", "cancel", "cancel ", "cancel 7 1", "cancel x", "cancel 07", "less",
    "less 7", "less 7 1 1", "less 7 -1", "less 7 x", "undo 1", "undo ", " undo", "undo\n", "redo 1", "redo ", "Undo",
    "undo redo", "change 5 7 12", "change 5 7 12 30 1", "change", "recall", "recall 1 2", "recall x", "close 1",
    "close ", "close\n", "room", "room 2", "room 2 5 1", "room 2 x", "room -2 5", "stairs", "stairs 2", "stairs 2 5 1",
    "stairs 2 05", "offer", "offer 2 3", "offer 2 3 5 1", "offer -2 3 5", "offer 2 -3 5", "offer 2 3 -5", "longest",
    "longest 2", "longest 2 5 1", "plan 1", "plan ", "save 1", " save", "save\n", "save ", "new", "new ", "new 1 2",
    "new x", "new -1", "new 01", "new \n", "save\nsave",
]
# These have right integers, but not a day or an amount.
BEYOND = ["new 1000001", "new " + "9" * 60, "offer 1000001 3 5", "offer 2 3 0", "offer 2 3 1000000001",
          "offer " + "9" * 60 + " 0 1", "offer 2 0 " + "9" * 60, "longest 1000001 5", "longest 2 0",
          "longest 2 1000000001", "longest " + "9" * 60 + " 1"]


class WrongTest(unittest.TestCase):
    def check_bad(self, console, before, value):
        with self.subTest(value):
            with self.assertRaises(BadCommand) as caught:
                console(value)
            self.assertIs(caught.exception.command, value)
            self.assertEqual(told(console), before)

    def check_error(self, name, kept, command, commands=START):
        console = started([*commands, "lot 90 2 1000000 1", "undo"])
        before = told(console)
        with self.subTest(command):
            self.assertEqual(answer(console, command), [name, kept])
            self.assertEqual(told(console), before)

    def test_commands_that_are_nearly_right(self):
        console = started([*START, "lot 8 8 8 8", "less 9 3", "undo", "undo"])
        before = told(console)
        for command in [*WRONG, *BEYOND]:
            self.assertIsNone(plain_command(command))
            self.check_bad(console, before, command)

    def test_values_of_any_kind(self):
        console = started()
        before = told(console)
        for value in [*ODD_VALUES, 0, 7, ["save"], ("save",), {"save": 1}, ["lot", 1, 0, 5, 10], b"save", Stairs()]:
            self.check_bad(console, before, value)

    def test_a_number_too_few_or_too_many(self):
        console = started()
        before = told(console)
        for word, many in COMMANDS.items():
            for count in range(7):
                if count != many:
                    self.check_bad(console, before, " ".join([word, *["5"] * count]))

    def test_small_changes_of_commands(self):
        chance = random.Random(1)
        console, plain = started(), PlainConsole()
        for command in START:
            plain(command)
        seen = {True: 0, False: 0}
        for _ in range(4000):
            word = chance.choice(list(COMMANDS))
            command = changed(chance, " ".join([word, *[str(chance.randint(0, 9)) for _ in range(COMMANDS[word])]]))
            found = answer(console, command)
            with self.subTest(command):
                self.assertEqual(found, plain(command))
            seen[found == ["BadCommand", command]] += 1
        self.assertGreater(min(seen.values()), 500)

    def test_errors_of_the_house(self):
        sixty = 10 ** 60 - 1
        for name, kept, command in [
                ("BadGoods", (0, 0, 5, 10), "lot 0 0 5 10"), ("BadGoods", (2, 0, 1, 10), "lot 2 0 1 10"),
                ("BadGoods", (2, 6, 5, 10), "lot 2 6 5 10"), ("BadGoods", (2, 0, 5, 0), "lot 2 0 5 0"),
                ("BadGoods", (1, 0, 1, 1), "lot 1 0 1 1"), ("BadGoods", (2, 0, 5, MANY + 1), "lot 2 0 5 1000000001"),
                ("BadGoods", (sixty, sixty, sixty, sixty), "lot " + " ".join(["9" * 60] * 4)),
                ("TakenId", 1, "lot 1 0 5 10"), ("BadGoods", (2, 1, 5, 1), "order 2 1 5 1"),
                ("BadGoods", (0, 2, 5, 1), "order 0 2 5 1"), ("BadGoods", (2, 5, 4, 1), "order 2 5 4 1"),
                ("BadGoods", (7, 5, 4, 1), "order 7 5 4 1"), ("TakenId", 7, "order 7 2 5 1"),
                ("NoRoom", Stairs((5, 6)), "order 2 2 9 3"), ("NoRoom", Stairs((8, 10)), "order 2 8 10 1"),
                ("UnknownId", 1, "cancel 1"), ("UnknownId", 0, "cancel 0"), ("UnknownId", sixty, "cancel " + "9" * 60),
                ("UnknownId", 5, "less 5 1"), ("UnknownId", 5, "less 5 0"), ("BadGoods", 8, "less 7 8"),
                ("BadGoods", 0, "less 7 0"), ("BadGoods", sixty, "less 7 " + "9" * 60),
                ("UnknownId", 2, "change 2 0 5 10"), ("UnknownId", 2, "change 2 0 5 0"),
                ("BadGoods", (1, 0, 1, 5), "change 1 0 1 5"), ("BadGoods", (1, 7, 6, 5), "change 1 7 6 5"),
                ("UnknownId", 7, "recall 7"), ("BadDay", (1, 5), "room 1 5"), ("BadDay", (5, 4), "room 5 4"),
                ("BadDay", (2, DAY + 1), "room 2 1000001"), ("BadDay", (1, 5), "stairs 1 5"),
                ("BadDay", (5, 4), "stairs 5 4"), ("BadDay", (2, DAY + 1), "stairs 2 1000001"),
                ("BadDay", (sixty, sixty), "stairs " + " ".join(["9" * 60] * 2))]:
            self.check_error(name, kept, command)

    def test_nothing_to_do(self):
        self.assertEqual(answer(Console(), "undo"), ["NothingToDo", "undo"])
        self.assertEqual(answer(Console(), "redo"), ["NothingToDo", "redo"])
        self.assertEqual(answer(started([*START, "new 2"]), "undo"), ["NothingToDo", "undo"])
        self.assertEqual(answer(started(), "redo"), ["NothingToDo", "redo"])

    def test_the_last_day(self):
        self.check_error("BadDay", DAY + 1, "close", ["new 1000000", "lot 1 0 1000000 5"])

    def test_a_hundred_lots_and_orders_and_one_more(self):
        lots = [f"lot {ident} 0 9 5" for ident in range(1, 101)]
        self.check_error_full("TooMany", 101, "lot 101 0 9 5", lots)
        self.check_error_full("TakenId", 100, "lot 100 0 9 5", lots)
        orders = [f"order {ident} 0 9 5" for ident in range(1, 101)]
        self.check_error_full("TooMany", 101, "order 101 0 9 5", [*lots, *orders])
        self.check_error_full("TakenId", 100, "order 100 0 9 5", [*lots, *orders])

    def check_error_full(self, name, kept, command, commands):
        console = started(commands)
        before = console("save")
        self.assertEqual(answer(console, command), [name, kept])
        self.assertEqual(console("save"), before)


class SequencesTest(unittest.TestCase):
    WORDS = ["lot"] * 6 + ["order"] * 8 + ["undo"] * 3 + ["redo"] * 3 + [
        "cancel", "less", "less", "change", "change", "recall", "close", "room", "stairs", "offer", "longest", "plan",
        "save"]

    def drawn_command(self, chance, today):
        word = chance.choice(self.WORDS) if chance.random() < 0.995 else "new"
        day = max(0, today + chance.randint(-1, 4))
        keeps = day + chance.randint(0, 5) if chance.random() < 0.95 else chance.randint(0, 9)
        ident, amount = chance.choice([1, 2, 3, 4, 5, 6]), chance.randint(0, 8)
        numbers = {"new": [chance.randint(0, 3)], "lot": [ident, day, keeps, amount + 3],
                   "order": [ident, day, keeps, amount], "cancel": [ident], "less": [ident, amount],
                   "change": [ident, day, keeps, amount], "recall": [ident], "room": [day, keeps],
                   "stairs": [day, keeps], "offer": [day, chance.randint(0, 4), amount + 1],
                   "longest": [day, amount + 1]}
        command = " ".join(str(part) for part in [word, *numbers.get(word, [])])
        return changed(chance, command) if chance.random() < 0.05 else command

    def test_drawn_commands(self):
        chance = random.Random(2)
        seen = {}
        for _ in range(12):
            console, plain = Console(), PlainConsole()
            for step in range(250):
                command = self.drawn_command(chance, plain.house.today)
                found = answer(console, command)
                with self.subTest(step=step, command=command):
                    self.assertEqual(found, plain(command))
                    self.check_house(console)
                key = (command.split(" ")[0], found[0] if isinstance(found, list) else found[:3] in ["ok", "non"])
                seen[key] = seen.get(key, 0) + 1
        for word in ["lot", "order", "cancel", "less", "undo", "redo", "change", "recall", "close", "new", "offer",
                     "longest", "plan"]:
            self.assertGreater(seen.get((word, True), 0), 3, word)
        for word in ["change", "recall", "close", "room", "stairs", "offer", "longest", "plan", "save"]:
            self.assertGreater(seen.get((word, False), 0), 3, word)
        for key in [("lot", "BadGoods"), ("lot", "TakenId"), ("order", "NoRoom"), ("order", "TakenId"),
                    ("cancel", "UnknownId"), ("less", "BadGoods"), ("undo", "NothingToDo"), ("room", "BadDay"),
                    ("redo", "NothingToDo"), ("stairs", "BadDay"), ("less", "UnknownId"), ("recall", "UnknownId")]:
            self.assertGreater(seen.get(key, 0), 2, key)

    def check_house(self, console):
        """Check that what a console says of its house fits its text."""
        house = read_house(console("save"))
        plan = make_plan(house.lots, house.orders)
        self.assertIs(is_plan(house.lots, house.orders, plan), True)
        self.assertEqual(plan, plain_plan(house.lots, house.orders))
        self.assertEqual(console("plan"), listed(plan) or "none")

    def test_the_same_calls_of_a_house(self):
        chance = random.Random(3)
        console, house = Console(), House()
        calls = {"lot": "add_lot", "order": "accept", "cancel": "cancel", "less": "lessen", "undo": "undo",
                 "redo": "redo", "change": "change_lot", "recall": "recall", "close": "close_day", "room": "room"}
        for _ in range(1500):
            command = self.drawn_command(chance, house.today)
            if plain_command(command) is None or plain_command(command)[0] not in calls:
                continue
            word, numbers = plain_command(command)
            found, expected = answer(console, command), answer(getattr(house, calls[word]), *numbers)
            if isinstance(found, list):
                self.assertEqual(found, expected)
            elif word == "room":
                self.assertEqual(found, str(expected))
            else:
                shown = [" ".join(map(str, part)) if word == "close" else f"{part[0]} {part[1]} -> {part[2]}"
                         for part in expected or []]
                self.assertEqual(found, " ".join(["ok", ", ".join(shown)]) if shown else "ok")
            self.assertEqual(console("save"), house_text(house))


class QuickTest(unittest.TestCase):
    def test_a_hundred_lots_and_orders(self):
        house = House.made(0, *full_house(1))
        console = started([f"lot {' '.join(map(str, lot))}" for lot in house.lots]
                          + [f"order {' '.join(map(str, order))}" for order in house.orders])
        self.assertEqual(console("save"), house_text(house))
        for command in ["room 300 600", "stairs 300 600", "offer 0 600 1", "longest 300 1", "plan", "save",
                        "order 101 300 600 1", "recall 50", "undo", "redo", "change 51 1000 1000 1", "close"]:
            self.assertLess(quickest(lambda: answer(console, command)), 0.5)

"""Promises 15 and 16: texts of houses, and tables of their rooms."""

import random
import unittest

from freshpromise.errors import BadText
from freshpromise.house import House
from freshpromise.stairs import Stairs
from freshpromise.texts import house_text, read_house, table
from tests.helpers import ODD_VALUES, full_house, plain_room, quickest, some_goods, with_ids
from tests.models import answer, history, parts
from tests.readers import changed, plain_parts, plain_text

DAY, MANY = 10 ** 6, 10 ** 9

TEXT = "house 2\nlot 1 3 6 10\nlot 5 0 9 22\norder 7 4 6 8\norder 3 2 9 5\norder 9 5 6 17"


def drawn_house(chance, last=8):
    """Return a house with drawn lots and orders and some changes to undo and redo."""
    house = House(today=chance.choice([0, 0, 2, 3]))
    for lot in with_ids(some_goods(chance, chance.randint(0, 6), last, 9), chance, 30):
        answer(house.add_lot, *lot)
    for order in with_ids(some_goods(chance, chance.randint(0, 9), last, 4), chance, 30):
        answer(house.accept, *order)
    for call in chance.sample(["undo", "redo", "close_day", "undo"], chance.randint(0, 3)):
        answer(getattr(house, call))
    return house


class HouseTextTest(unittest.TestCase):
    def test_some_houses(self):
        house = House.made(2, [(5, 0, 9, 22), (1, 3, 6, 10)], [(7, 4, 6, 8), (3, 2, 9, 5), (9, 5, 6, 17)])
        self.assertEqual(house_text(house), TEXT)
        self.assertEqual(house_text(house=house), TEXT)
        self.assertEqual(house_text(House()), "house 0")
        self.assertEqual(house_text(House(today=DAY)), "house 1000000")
        house = House.made(DAY, [(DAY, DAY, DAY, MANY)], [(DAY, DAY, DAY, MANY)])
        self.assertEqual(house_text(house), "house 1000000\nlot 1000000 1000000 1000000 1000000000\n"
                                            "order 1000000 1000000 1000000 1000000000")
        self.assertEqual(house_text(House.made(0, [(2, 0, 0, 1)], [])), "house 0\nlot 2 0 0 1")

    def test_the_sequences(self):
        house = House()
        for ident in [10, 9, 100, 1]:
            house.add_lot(ident, 0, 5, 10)
        for ident in [8, 7, 20, 3]:
            house.accept(ident, 1, 2, ident)
        self.assertEqual(house_text(house), "house 0\nlot 1 0 5 10\nlot 9 0 5 10\nlot 10 0 5 10\nlot 100 0 5 10\n"
                                            "order 8 1 2 8\norder 7 1 2 7\norder 20 1 2 20\norder 3 1 2 3")

    def test_many_houses(self):
        chance = random.Random(1)
        for _ in range(300):
            house = drawn_house(chance)
            before = history(house)
            text = house_text(house)
            self.assertEqual(text, plain_text(*parts(house)))
            self.assertEqual(plain_parts(text), parts(house))
            self.assertEqual(history(house), before)


class ReadHouseTest(unittest.TestCase):
    def check(self, value):
        """Check that a value is read as the plain reading says, and return whether it is a text of a house."""
        expected = plain_parts(value)
        with self.subTest(value):
            if expected is None:
                with self.assertRaises(BadText) as caught:
                    read_house(value)
                self.assertIs(caught.exception.value, value)
                return False
            house = read_house(value)
            self.assertIsInstance(house, House)
            self.assertEqual(history(house), [[expected], [], []])
            self.assertEqual(house_text(house), value)
            return True

    def check_texts(self, right, wrong):
        """Check that some texts are right and others are wrong."""
        for text in right:
            self.assertTrue(self.check(text), text)
        for text in wrong:
            self.assertFalse(self.check(text), text)

    def test_some_texts(self):
        house = read_house(text=TEXT)
        lots, orders = [(1, 3, 6, 10), (5, 0, 9, 22)], [(7, 4, 6, 8), (3, 2, 9, 5), (9, 5, 6, 17)]
        self.assertEqual(history(house), [[(2, lots, orders)], [], []])
        self.check_texts([TEXT, "house 0", "house 1000000", "house 0\nlot 1 0 0 1", "house 0\nlot 1 0 0 1\norder 1 0 0 1"],
                         ["", "house", "house ", "house 0\n", "\nhouse 0", "house 0 ", " house 0", "house  0", "house 0 0",
                          "house 0\n\nlot 1 0 0 1", "lot 1 0 0 1", "order 1 0 0 1", "House 0", "house\n0", "0", "house0"])

    def test_many_houses(self):
        chance = random.Random(2)
        for _ in range(300):
            house = drawn_house(chance)
            read = read_house(house_text(house))
            self.assertIs(read.same(house), True)
            self.assertIs(house.same(read), True)
            self.assertEqual(answer(read.undo), ["NothingToDo", "undo"])
            self.assertEqual(answer(read.redo), ["NothingToDo", "redo"])
            self.assertEqual(house_text(read), house_text(house))

    def test_what_is_done_with_it(self):
        house = read_house(TEXT)
        self.assertEqual(house.close_day(), [(3, 5, 5)])
        self.assertEqual([cut[:3] for cut in house.recall(5)], [(9, 17, 2)])
        house.undo()
        house.undo()
        self.assertEqual(house_text(house), TEXT)

    def test_small_changes(self):
        chance = random.Random(3)
        seen = {True: 0, False: 0}
        for _ in range(150):
            text = house_text(drawn_house(chance, chance.choice([3, 8])))
            for _ in range(40):
                seen[self.check(changed(chance, text))] += 1
        self.assertGreater(min(seen.values()), 300)

    def test_the_sequence_of_the_lines(self):
        lines = TEXT.split("\n")
        for at in range(len(lines)):
            for line in lines:
                self.check("\n".join(lines[:at] + [line] + lines[at:]))
                self.check("\n".join(lines[:at] + [line] + lines[at + 1:]))
            self.check("\n".join(lines[:at] + lines[at + 1:]))
            self.check("\n".join(lines[:at]))
            self.check("\n".join(lines[at:]))
        self.check_texts([], ["house 0\norder 1 0 0 1\nlot 1 0 0 1", "house 0\nlot 1 0 0 1\nhouse 0",
                              "lot 1 0 0 1\nhouse 0", "house 0\nlot 1 0 0 1\norder 1 0 0 1\nlot 2 0 0 1",
                              "house 0\nhouse 0", "house 0\nshelf 1 0 0 1", "house 0\nlots 1 0 0 1"])

    def test_spaces_and_newlines(self):
        self.check_texts([], ["house 0\nlot 1 0 0 1 ", "house 0\n lot 1 0 0 1", "house 0\nlot  1 0 0 1",
                              "house 0\nlot 1 0  0 1", "house 0\nlot 1 0 0 1\n", "house 0\nlot 1 0 0 1\n\n",
                              "house 0 \nlot 1 0 0 1", "house 0\n\nlot 1 0 0 1", "house 0\nlot 1 0 0\n1",
                              "house 0\nlot 1 0 0", "house 0\nlot 1 0 0 1 1", "house 0\nlot", "house 0\norder",
                              "house 0\nlot 1\t0 0 1", "house 0\r\nlot 1 0 0 1", "house 0 lot 1 0 0 1"])

    def test_numbers(self):
        sixty = "1" + "0" * 59
        self.check_texts([], ["house 00", "house 01", "house +0", "house -0", "house -1", "house 0.0", "house 1_0",
                              "house x", "house None", "house 1000001", "house " + sixty, "house " + sixty + "0",
                              "house " + "0" * 60 + "1", "house \u0661", "house 0\nlot \u0661 0 0 1"])
        for at in range(4):
            for number in ["0", "00", "01", "-1", "+1", "1.0", "1_0", "a", "", "1000001", "1000000001", sixty,
                           sixty + "0", "9" * 5000, "0" * 61, "True", "1 1"]:
                for word in ["lot", "order"]:
                    for numbers in [["1", "0", "2", "1"], ["1", "2", "2", "1"]]:
                        numbers[at] = number
                        self.check("house 0\nlot 3 0 8 9\n" * (word == "order") + "house 0\n" * (word == "lot")
                                   + word + " " + " ".join(numbers))

    def test_the_limits_of_numbers(self):
        self.check_texts(
            ["house 0\nlot 1000000 0 1000000 1000000000\norder 1000000 0 1000000 1000000000",
             "house 1000000\nlot 1 1000000 1000000 1", "house 3\nlot 1 0 3 1", "house 3\nlot 1 9 9 1"],
            ["house 0\nlot 1000001 0 1 1", "house 0\nlot 0 0 1 1", "house 0\nlot 1 0 1000001 1", "house 0\nlot 1 0 1 0",
             "house 0\nlot 1 0 1 1000000001", "house 0\nlot 1 2 1 1", "house 0\nlot 1 1000001 1000001 1",
             "house 0\nlot 1 0 9 9\norder 1000001 0 1 1", "house 0\nlot 1 0 9 9\norder 0 0 1 1",
             "house 0\nlot 1 0 9 9\norder 1 2 1 1", "house 0\nlot 1 0 9 9\norder 1 0 1 0", "house 1000001"])

    def test_ids(self):
        self.check_texts(
            ["house 0\nlot 1 0 1 1\nlot 2 0 1 1\nlot 10 0 1 1", "house 0\nlot 7 0 1 2\norder 7 0 1 1\norder 2 0 1 1"],
            ["house 0\nlot 1 0 1 1\nlot 1 0 1 1", "house 0\nlot 1 0 1 1\nlot 1 0 2 1", "house 0\nlot 2 0 1 1\nlot 1 0 1 1",
             "house 0\nlot 1 0 1 1\nlot 10 0 1 1\nlot 2 0 1 1", "house 0\nlot 7 0 1 2\norder 2 0 1 1\norder 2 0 1 1",
             "house 0\nlot 7 0 1 9\norder 2 0 1 1\norder 3 0 1 1\norder 2 1 1 2"])

    def test_days_before_today(self):
        self.check_texts(
            ["house 3\nlot 1 0 3 1", "house 3\nlot 1 0 9 1\norder 1 3 4 1", "house 3\nlot 1 5 9 1\norder 1 5 9 1"],
            ["house 3\nlot 1 0 2 1", "house 3\nlot 1 0 9 1\norder 1 2 4 1", "house 3\nlot 1 0 9 1\nlot 2 2 2 1"])

    def test_a_plan_is_needed(self):
        lots = "house 0\nlot 1 0 5 10\nlot 2 3 9 4"
        self.check_texts(
            [lots + "\norder 1 0 5 10\norder 2 3 9 4", lots + "\norder 1 3 5 14", lots + "\norder 1 4 6 4"],
            [lots + "\norder 1 0 5 11", lots + "\norder 1 3 5 15", lots + "\norder 1 2 6 1", lots + "\norder 1 3 9 5",
             lots + "\norder 1 4 6 4\norder 2 2 5 11", lots + "\norder 1 5 10 1", "house 0\norder 1 0 0 1"])

    def test_a_hundred_lots_and_orders_and_one_more(self):
        for lots, orders in [(100, 100), (100, 0), (101, 0), (100, 101), (101, 101), (1, 100), (1, 101)]:
            text = plain_text(3, [(ident, 2, 5, 200) for ident in range(1, lots + 1)],
                              [(ident, 3, 4, 1) for ident in range(orders, 0, -1)])
            self.assertIs(self.check(text), lots <= 100 and orders <= 100)

    def test_values_of_any_kind(self):
        for value in [*ODD_VALUES, 0, 7, ["house 0"], ("house 0",), {"house 0": 1}, House(), b"house 0", Stairs()]:
            self.assertFalse(self.check(value))

    def test_long_texts(self):
        for text in ["house 0" + "\nlot 1 0 0 1" * 100000, "house 0" + " 0" * 100000, "\n" * 100000, "9" * 100000]:
            self.assertFalse(self.check(text))


def plain_table(lots, orders, first, days, spans):
    """Return a table whose rooms are found by delivering."""
    lines = []
    for day in range(first, first + days):
        rooms = [plain_room(lots, orders, (day, day + span)) for span in range(spans)]
        lines.append(str(day).rjust(7) + "".join(":" + str(room).rjust(10) for room in rooms))
    return "\n".join(lines)


class TableTest(unittest.TestCase):
    def test_the_example_of_the_document(self):
        house = House()
        house.add_lot(1, 0, 2, 10)
        self.assertEqual(table(house, first=1, days=2, spans=2),
                         "      1:        10:        10\n      2:        10:         0")

    def test_many_tables(self):
        chance = random.Random(4)
        for _ in range(120):
            house = drawn_house(chance)
            before = history(house)
            first, days, spans = chance.randint(0, 6), chance.randint(0, 6), chance.randint(0, 6)
            self.assertEqual(table(house, first=first, days=days, spans=spans),
                             plain_table(house.lots, house.orders, first, days, spans))
            self.assertEqual(history(house), before)

    def test_days_before_today(self):
        house = House.made(4, [(1, 2, 9, 10), (2, 6, 9, 5)], [(7, 5, 8, 3)])
        self.assertEqual(table(house, first=1, days=6, spans=3), "\n".join([
            "      1:         0:         0:         0", "      2:         7:         7:         7",
            "      3:         7:         7:         7", "      4:         7:         7:         7",
            "      5:         7:         7:         7", "      6:        12:        12:        12"]))

    def test_no_days_and_no_spans(self):
        house = read_house(TEXT)
        self.assertEqual(table(house, first=3, days=0, spans=5), "")
        self.assertEqual(table(house, first=3, days=0, spans=0), "")
        self.assertEqual(table(house, first=9, days=3, spans=0), "      9\n     10\n     11")
        self.assertEqual(table(House(), first=0, days=1, spans=1), "      0:         0")

    def test_up_to_the_last_day(self):
        house = House.made(0, [(1, 0, DAY, 5), (2, DAY, DAY, MANY)], [(1, DAY - 1, DAY, 2)])
        self.assertEqual(table(house, first=DAY - 2, days=2, spans=2),
                         " 999998:         3:         3\n 999999:         3:         3")
        self.assertEqual(table(house, first=DAY - 1, days=2, spans=1), " 999999:         3\n1000000:1000000003")
        self.assertEqual(table(house, first=0, days=1, spans=1), "      0:         3")

    def test_great_rooms(self):
        lots = [(ident, 0, 5, MANY) for ident in range(1, 101)]
        for many, room in [(1, "1000000000"), (9, "9000000000"), (10, "10000000000"), (100, "100000000000")]:
            self.assertEqual(table(House.made(0, lots[:many], []), first=5, days=1, spans=2),
                             f"      5:{room}:         0")

    def test_the_words_are_passed_by_name(self):
        house = read_house(TEXT)
        self.assertEqual(table(spans=1, days=1, house=house, first=2), table(house, first=2, days=1, spans=1))
        self.assertRaises(TypeError, table, house, 2, 1, 1)


class QuickTest(unittest.TestCase):
    def test_a_hundred_lots_and_orders(self):
        house = House.made(0, *full_house(1))
        text = house_text(house)
        self.assertTrue(read_house(text).same(house))
        found = table(house, first=0, days=40, spans=25)
        self.assertEqual(found.split("\n")[30].split(":")[20], str(house.room(30, 49)).rjust(10))
        for call in [lambda: house_text(house), lambda: read_house(text),
                     lambda: table(house, first=0, days=40, spans=25)]:
            self.assertLess(quickest(call), 0.5)

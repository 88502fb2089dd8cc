"""Promises 2 and 3: days, amounts, ids, pairs, lots and orders; and 15: how integers are written."""

import unittest

from freshpromise.goods import (
    is_amount, is_day, is_goods, is_id, is_pair, pair_of, read_number, suits, suits_pair, with_amount)
from tests.helpers import ODD_VALUES, pairs_to, plain_suits

DAY, MANY, LAST_ID = 10 ** 6, 10 ** 9, 10 ** 6


class KindsTest(unittest.TestCase):
    def check(self, test, right, wrong):
        for value in right:
            with self.subTest(test.__name__, right=value):
                self.assertIs(test(value), True)
                self.assertIs(test(value=value), True)
        for value in wrong:
            with self.subTest(test.__name__, wrong=value):
                self.assertIs(test(value), False)
                self.assertIs(test(value=value), False)

    def test_days(self):
        self.check(is_day, [0, 1, 2, 999999, DAY], [-1, DAY + 1, 10 ** 59, -10 ** 59, *ODD_VALUES])

    def test_amounts(self):
        self.check(is_amount, [1, 2, DAY + 1, MANY], [-1, 0, MANY + 1, 10 ** 59, *ODD_VALUES])

    def test_ids(self):
        self.check(is_id, [1, 2, 999999, LAST_ID], [-1, 0, LAST_ID + 1, 10 ** 59, *ODD_VALUES])

    def test_pairs(self):
        right = [(0, 0), (0, 1), (0, DAY), (DAY, DAY), (3, 3), (3, 4)]
        wrong = [(1, 0), (4, 3), (DAY, DAY - 1), (DAY, DAY + 1), (DAY + 1, DAY + 1), (-1, 0), (-1, -1)]
        shape = [[0, 0], [3, 4], (), (3,), (3, 4, 5), (1, 3, 4, 1), "34", {3: 4}, 3, ((3, 4),), (3, (4,))]
        kinds = [(True, 3), (0, True), (False, 0), (0, False), (None, 3), (3, None), ("3", 4), (3, "4")]
        self.check(is_pair, right, wrong + shape + kinds + ODD_VALUES)

    def test_goods(self):
        right = [(1, 0, 0, 1), (LAST_ID, DAY, DAY, MANY), (7, 2, 5, 10), (1, 0, DAY, MANY), (5, 3, 3, 1)]
        wrong = [(0, 2, 5, 10), (LAST_ID + 1, 2, 5, 10), (-1, 2, 5, 10), (7, -1, 5, 10), (7, 2, DAY + 1, 10),
                 (7, DAY + 1, DAY + 1, 10), (7, 5, 4, 10), (7, 2, 5, 0), (7, 2, 5, -1), (7, 2, 5, MANY + 1)]
        shape = [[7, 2, 5, 10], (7, 2, 5), (7, 2, 5, 10, 1), (), (7,), (7, (2, 5), 10), 7, "7 2 5 10", {7: (2, 5, 10)}]
        kinds = []
        for at in range(4):
            for value in [True, False, None, "1", (), (1,), [1], {}]:
                goods = [1, 1, 1, 1]
                goods[at] = value
                kinds.append(tuple(goods))
        self.check(is_goods, right, wrong + shape + kinds + ODD_VALUES)

    def test_values_stay_as_they_are(self):
        for test in [is_day, is_amount, is_id, is_pair, is_goods]:
            value = [1, [2, 3], {4: 5}]
            test(value)
            self.assertEqual(value, [1, [2, 3], {4: 5}])


class SuitsTest(unittest.TestCase):
    def test_the_example_of_the_document(self):
        self.assertIs(suits((1, 2, 6, 10), (7, 3, 5, 4)), True)

    def test_edges(self):
        lot = (1, 2, 6, 10)
        for pair, right in [((2, 6), True), ((2, 2), True), ((6, 6), True), ((3, 5), True),
                            ((1, 6), False), ((2, 7), False), ((1, 7), False), ((1, 1), False), ((7, 7), False)]:
            with self.subTest(pair):
                self.assertIs(suits_pair(lot, pair), right)
                self.assertIs(suits(lot, (7, *pair, 99)), right)

    def test_all_pairs_of_some_days(self):
        for there in pairs_to(4):
            for asked in pairs_to(4):
                lot, order = (5, *there, 1), (4, *asked, 3)
                with self.subTest(lot=lot, order=order):
                    self.assertIs(suits(lot, order), plain_suits(lot, order))
                    self.assertIs(suits_pair(lot, asked), plain_suits(lot, order))

    def test_the_last_days(self):
        self.assertTrue(suits((1, 0, DAY, 1), (1, DAY, DAY, MANY)))
        self.assertFalse(suits((1, DAY, DAY, 1), (1, DAY - 1, DAY, 1)))

    def test_arguments_by_name(self):
        self.assertTrue(suits(order=(7, 3, 5, 4), lot=(1, 2, 6, 10)))
        self.assertFalse(suits(lot=(7, 3, 5, 4), order=(1, 2, 6, 10)))
        self.assertTrue(suits_pair(pair=(3, 5), lot=(1, 2, 6, 10)))


class PartsTest(unittest.TestCase):
    def test_pair_of(self):
        self.assertEqual(pair_of((7, 2, 5, 10)), (2, 5))
        self.assertEqual(pair_of(goods=(LAST_ID, 0, DAY, MANY)), (0, DAY))
        self.assertIsInstance(pair_of((7, 2, 5, 10)), tuple)

    def test_with_amount(self):
        goods = (7, 2, 5, 10)
        self.assertEqual(with_amount(goods, 3), (7, 2, 5, 3))
        self.assertEqual(with_amount(amount=MANY, goods=goods), (7, 2, 5, MANY))
        self.assertEqual(with_amount(goods, 10), goods)
        self.assertEqual(goods, (7, 2, 5, 10))
        self.assertIsInstance(with_amount(goods, 3), tuple)

    def test_the_same_amount_makes_a_new_tuple(self):
        goods = tuple([7, 2, 5, 10])
        self.assertIsNot(with_amount(goods, 10), goods)


class NumbersTest(unittest.TestCase):
    def test_right_ones(self):
        for word, number in [("0", 0), ("7", 7), ("10", 10), ("1000000", DAY), ("9" * 60, 10 ** 60 - 1)]:
            self.assertEqual(read_number(word), number)

    def test_wrong_ones(self):
        for word in ["", "00", "01", "0" * 60, "-1", "+1", "-0", "1.0", "1e3", "1_0", " 1", "1 ", "1\n", "a", "0x1",
                     "1" + "0" * 60, "9" * 61, "1" * 5000, "\u0663", "\u00b2"]:
            with self.subTest(word):
                self.assertIsNone(read_number(word))

"""Promise 4: staircases; and 15 for their texts."""

import itertools
import random
import unittest

from freshpromise.errors import BadStairs, BadText, FreshError
from freshpromise.stairs import Stairs
from tests.helpers import ODD_VALUES, filled, is_told, members, pairs_to, staircases

DAY = 10 ** 6
LAST = 3
PAIRS = pairs_to(LAST)


def some_stairs():
    """Return every staircase over the days up to LAST, with the set of its pairs."""
    found = []
    for pairs in staircases(PAIRS, LAST):
        found.append((Stairs(*sorted(pairs)), pairs))
    return found


class MakingTest(unittest.TestCase):
    def test_the_examples_of_the_document(self):
        self.assertEqual(Stairs((2, 4), (1, 3), (2, 6)).corners, [(1, 3), (2, 4)])
        stairs = Stairs((2, 4))
        self.assertEqual([(1, 5) in stairs, (3, 5) in stairs, len(stairs & Stairs((1, 1)))], [True, False, 1])

    def test_no_pairs(self):
        stairs = Stairs()
        self.assertEqual(stairs.corners, [])
        self.assertEqual(len(stairs), 0)
        self.assertIs(bool(stairs), False)
        self.assertEqual(stairs.text, "")
        self.assertFalse((0, 0) in stairs)
        self.assertFalse((0, DAY) in stairs)

    def test_one_pair(self):
        for pair in [(0, 0), (0, DAY), (DAY, DAY), (3, 7)]:
            stairs = Stairs(pair)
            self.assertEqual(stairs.corners, [pair])
            self.assertEqual(len(stairs), 1)
            self.assertIs(bool(stairs), True)

    def test_pairs_that_others_bring_along(self):
        for pairs, corners in [
                ([(2, 4), (2, 5)], [(2, 4)]), ([(2, 4), (1, 4)], [(2, 4)]), ([(2, 4), (2, 4)], [(2, 4)]),
                ([(1, 9), (2, 4), (0, 4)], [(2, 4)]), ([(3, 3), (0, 0)], [(0, 0), (3, 3)]),
                ([(0, 5), (1, 5), (2, 5), (2, 6), (3, 6)], [(2, 5), (3, 6)]),
                ([(5, 9), (4, 8), (3, 7), (5, 6)], [(5, 6)]), ([(1, 1), (1, 1), (0, DAY)], [(1, 1)])]:
            for sequence in itertools.permutations(pairs):
                with self.subTest(sequence):
                    self.assertEqual(Stairs(*sequence).corners, corners)

    def test_corners_are_those_that_no_other_pair_brings_along(self):
        chance = random.Random(4)
        for _ in range(500):
            pairs = [chance.choice(PAIRS) for _ in range(chance.randint(0, 6))]
            stairs = Stairs(*pairs)
            corners = [pair for pair in sorted(set(pairs))
                       if not is_told([other for other in pairs if other != pair], pair)]
            with self.subTest(pairs):
                self.assertEqual(stairs.corners, corners)
                self.assertEqual(len(stairs), len(corners))
                self.assertIs(bool(stairs), bool(corners))
                self.assertEqual(members(stairs, LAST), filled(pairs, LAST))

    def test_corners_ascend(self):
        for stairs, _ in some_stairs():
            for first, second in zip(stairs.corners, stairs.corners[1:]):
                self.assertLess(first[0], second[0])
                self.assertLess(first[1], second[1])

    def test_many_corners(self):
        pairs = [(day, day + 1000) for day in range(2000)]
        stairs = Stairs(*reversed(pairs))
        self.assertEqual(stairs.corners, pairs)
        self.assertEqual(len(stairs), 2000)
        self.assertIn((1999, 2999), stairs)
        self.assertNotIn((1999, 2998), stairs)
        self.assertEqual((stairs | Stairs((1999, 1999))).corners, [*pairs[:999], (1999, 1999)])
        self.assertEqual(stairs & stairs, stairs)
        self.assertTrue(stairs.within(stairs))

    def test_the_first_wrong_value(self):
        wrong = [*ODD_VALUES, (4, 3), (-1, 2), (0, DAY + 1), [1, 2], (1, 2, 3), (True, 2), 0, 7]
        for value in wrong:
            for given in [[value], [(1, 2), value], [value, (1, 2)], [(1, 2), value, (9, 8), None]]:
                with self.subTest(given):
                    with self.assertRaises(BadStairs) as caught:
                        Stairs(*given)
                    self.assertIs(caught.exception.value, value)
                    self.assertIsInstance(caught.exception, FreshError)

    def test_the_list_of_corners_is_the_callers(self):
        stairs = Stairs((1, 3), (2, 4))
        corners = stairs.corners
        corners.append((9, 9))
        corners[0] = None
        self.assertEqual(stairs.corners, [(1, 3), (2, 4)])
        self.assertEqual(len(stairs), 2)
        self.assertIsNot(stairs.corners, stairs.corners)
        stairs.corners.clear()
        self.assertEqual(stairs.text, "1 3, 2 4")
        Stairs().corners.append((1, 1))
        self.assertEqual(Stairs().corners, [])


class InTest(unittest.TestCase):
    def test_values_of_any_kind(self):
        stairs = Stairs((DAY, DAY), (5, 5), (0, 0))
        for value in [*ODD_VALUES, [0, 0], (0,), (0, 0, 0), (True, 2), (0, True), (2, 1), (-1, 0), (0, DAY + 1),
                      ("0", "0"), (None, None), 0, stairs]:
            with self.subTest(value):
                self.assertIs(value in stairs, False)

    def test_edges(self):
        stairs = Stairs((2, 4), (5, 8))
        for pair, right in [((2, 4), True), ((0, 4), True), ((2, DAY), True), ((0, DAY), True), ((2, 3), False),
                            ((3, 4), False), ((3, 7), False), ((3, 8), True), ((5, 8), True), ((5, 7), False),
                            ((6, 8), False), ((6, DAY), False), ((0, 3), False), ((DAY, DAY), False)]:
            with self.subTest(pair):
                self.assertIs(pair in stairs, right)
                self.assertIs(pair not in stairs, not right)

    def test_all_staircases_of_some_days(self):
        for stairs, pairs in some_stairs():
            self.assertEqual(members(stairs, LAST), pairs)


class BothTest(unittest.TestCase):
    def test_all_staircases_of_some_days(self):
        for first, left in some_stairs():
            for second, right in some_stairs():
                with self.subTest(first=first.text, second=second.text):
                    self.assertEqual(members(first | second, LAST), left | right)
                    self.assertEqual(members(first & second, LAST), left & right)
                    self.assertIs(first.within(second), left <= right)
                    self.assertIs(first == second, left == right)
                    self.assertIs(first != second, left != right)

    def test_what_comes_out_is_told_by_its_corners(self):
        for first, left in some_stairs():
            for second, right in some_stairs():
                self.assertEqual((first | second).corners, Stairs(*(left | right)).corners)
                self.assertEqual((first & second).corners, Stairs(*(left & right)).corners)

    def test_far_apart(self):
        first, second = Stairs((0, 0), (5, 9)), Stairs((DAY, DAY), (3, 4))
        self.assertEqual((first | second).corners, [(0, 0), (3, 4), (5, 9), (DAY, DAY)])
        self.assertEqual((first & second).corners, [(0, 4), (3, 9), (5, DAY)])

    def test_with_no_pairs(self):
        none, some = Stairs(), Stairs((1, 3), (2, 4))
        self.assertEqual(none | some, some)
        self.assertEqual(some | none, some)
        self.assertEqual(none & some, none)
        self.assertEqual(some & none, none)
        self.assertIs(none.within(some), True)
        self.assertIs(some.within(none), False)
        self.assertIs(none.within(none), True)

    def test_both_stay_as_they_are(self):
        first, second = Stairs((1, 3), (2, 4)), Stairs((2, 3))
        for made in [first | second, first & second, first | first, first & first]:
            self.assertIsInstance(made, Stairs)
            self.assertIsNot(made, first)
        first |= second
        self.assertEqual(first, Stairs((2, 3)))
        self.assertEqual(second.corners, [(2, 3)])

    def test_within_by_name(self):
        self.assertIs(Stairs((1, 5)).within(second=Stairs((2, 4))), True)
        self.assertIs(Stairs((2, 4)).within(second=Stairs((1, 5))), False)


class EqualTest(unittest.TestCase):
    def test_same_pairs(self):
        self.assertTrue(Stairs((2, 4), (1, 3)) == Stairs((1, 3), (2, 4), (2, 9)))
        self.assertFalse(Stairs((2, 4), (1, 3)) != Stairs((1, 3), (2, 4), (2, 9)))
        self.assertFalse(Stairs((2, 4)) == Stairs((2, 5)))
        self.assertTrue(Stairs((2, 4)) != Stairs((3, 4)))
        self.assertTrue(Stairs() == Stairs())

    def test_other_values(self):
        for stairs in [Stairs(), Stairs((2, 4)), Stairs((0, 0), (2, 4))]:
            for value in [*ODD_VALUES, stairs.corners, tuple(stairs.corners), stairs.text, (2, 4), len(stairs)]:
                with self.subTest(stairs=stairs.text, value=value):
                    self.assertIs(stairs == value, False)
                    self.assertIs(value == stairs, False)
                    self.assertIs(stairs != value, True)


class TextTest(unittest.TestCase):
    def test_both_ways(self):
        for stairs, text in [(Stairs(), ""), (Stairs((0, 0)), "0 0"), (Stairs((2, 4), (1, 3)), "1 3, 2 4"),
                             (Stairs((9, 10), (10, 100), (DAY, DAY)), "9 10, 10 100, 1000000 1000000")]:
            self.assertEqual(stairs.text, text)
            self.assertEqual(Stairs.read(text), stairs)
            self.assertEqual(Stairs.read(text=text).corners, stairs.corners)
            self.assertIsInstance(Stairs.read(text), Stairs)

    def test_all_staircases_of_some_days(self):
        for stairs, _ in some_stairs():
            text = ", ".join(f"{day} {keeps}" for day, keeps in stairs.corners)
            self.assertEqual(stairs.text, text)
            self.assertEqual(Stairs.read(text), stairs)

    def test_it_is_called_off_an_object_too(self):
        self.assertEqual(Stairs((1, 1)).read("2 4").corners, [(2, 4)])

    def test_texts_that_are_nearly_right(self):
        for text in [" ", "\n", ",", ", ", "1", "1 ", " 1", "1 3 ", " 1 3", "1  3", "1 3\n", "\n1 3", "1\n3", "1 3 4",
                     "1,3", "1, 3", "1 3,2 4", "1 3 , 2 4", "1 3,  2 4", "1 3, 2 4,", "1 3, 2 4, ", ", 1 3, 2 4",
                     ",1 3, 2 4", "1 3, , 2 4", "1 3,, 2 4", "1 3 2 4", "1 3; 2 4", "1 3\n2 4", "1 3,\n2 4",
                     "01 3", "1 03", "00 3", "0 00", "1 3, 02 4", "+1 3", "-1 3", "1 -3", "-0 3", "1.0 3", "1_0 20",
                     "1 3, 2 a", "a b", "(1, 3)", "[(1, 3)]", "one 3", "1 3, 2 0x4", "\u0661 3", "1\u00a03"]:
            self.check_bad(text)

    def test_pairs_that_are_not_the_corners_in_sequence(self):
        for text in ["3 1", "1 0", "2 4, 1 3", "1 3, 1 3", "1 3, 1 4", "1 4, 1 3", "1 3, 2 3", "2 3, 1 3", "2 4, 1 5",
                     "1 5, 2 4", "1 3, 2 4, 2 4", "1 3, 2 4, 3 2", "1 3, 3 5, 2 4", "1000000 1000001",
                     "1000001 1000001", "0 1000001"]:
            self.check_bad(text)

    def test_long_numbers(self):
        for text in ["1 1" + "0" * 58, "1 1" + "0" * 59, "1 1" + "0" * 60, "1 3, 2 " + "4" * 61, "0" * 61 + " 3",
                     "1 " + "9" * 10000]:
            self.check_bad(text)

    def test_values_of_any_kind(self):
        for value in [value for value in ODD_VALUES if value != "1 2" and value != ""]:
            self.check_bad(value)
        for value in [0, 7, (1, 3), [1, 3], ["1 3"], ("1 3",), {"1 3": 1}, Stairs((1, 3))]:
            self.check_bad(value)

    def check_bad(self, value):
        with self.subTest(value):
            with self.assertRaises(BadText) as caught:
                Stairs.read(value)
            self.assertIs(caught.exception.value, value)

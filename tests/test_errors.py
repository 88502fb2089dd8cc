"""The errors: what they are, and that they keep the very value."""

import unittest

from freshpromise import errors
from freshpromise.errors import FreshError
from tests.helpers import ODD_VALUES

ATTRIBUTES = {
    "BadGoods": "value",
    "BadStairs": "value",
    "BadDay": "value",
    "BadText": "value",
    "BadCommand": "command",
    "UnknownId": "ident",
    "TakenId": "ident",
    "TooMany": "count",
    "NoRoom": "stairs",
    "NothingToDo": "action",
    "UnknownName": "name",
    "TakenName": "name",
}


class ErrorsTest(unittest.TestCase):
    def test_fresh_error_is_a_value_error(self):
        self.assertEqual(FreshError.__bases__, (ValueError,))
        with self.assertRaises(ValueError):
            raise FreshError("a message")

    def test_the_others_are_directly_below_it(self):
        for name in ATTRIBUTES:
            with self.subTest(name):
                self.assertEqual(getattr(errors, name).__bases__, (FreshError,))

    def test_each_keeps_the_very_value(self):
        for name, attribute in ATTRIBUTES.items():
            made = getattr(errors, name)
            for value in ODD_VALUES + [7, 10 ** 59, -1, (1, 2, 3, 4)]:
                with self.subTest(name, value=value):
                    self.assertIs(getattr(made(value), attribute), value)
                    self.assertIs(getattr(made(**{attribute: value}), attribute), value)

    def test_the_attribute_belongs_to_the_object(self):
        for name, attribute in ATTRIBUTES.items():
            made = getattr(errors, name)
            first, second = made([1]), made([2])
            with self.subTest(name):
                self.assertEqual(vars(first), {attribute: [1]})
                self.assertEqual(vars(second), {attribute: [2]})

    def test_each_is_caught_as_itself_only(self):
        for name in ATTRIBUTES:
            error = getattr(errors, name)(3)
            self.assertIsInstance(error, FreshError)
            self.assertIsInstance(error, ValueError)
            for other in ATTRIBUTES:
                with self.subTest(name, other=other):
                    self.assertEqual(isinstance(error, getattr(errors, other)), name == other)

    def test_each_takes_exactly_one_value(self):
        for name in ATTRIBUTES:
            with self.subTest(name):
                self.assertRaises(TypeError, getattr(errors, name))
                self.assertRaises(TypeError, getattr(errors, name), 1, 2)

"""The errors: bases, attributes, and none a kind of another one."""

import unittest

from rootparts import errors
from tests.samples import odd_values

ONE = {
    "InvalidPlace": "value", "SamePlace": "place", "AlreadyRoot": "place", "NotRoot": "place",
    "InvalidSizes": "sizes", "InvalidText": "value",
}
TWO = ("AlreadyTied", "NotTied")
NAMES = [*ONE, *TWO]


class Errors(unittest.TestCase):
    def test_the_base_is_a_direct_subclass_of_value_error(self):
        self.assertEqual(errors.RootpartsError.__bases__, (ValueError,))

    def test_each_error_is_a_direct_subclass_of_the_base(self):
        self.assertEqual(len(NAMES), 8)
        for name in NAMES:
            self.assertEqual(getattr(errors, name).__bases__, (errors.RootpartsError,), name)

    def test_none_is_a_subclass_of_another_one(self):
        for name in NAMES:
            for other in NAMES:
                if name != other:
                    self.assertFalse(issubclass(getattr(errors, name), getattr(errors, other)), (name, other))

    def test_one_attribute_holds_the_argument(self):
        for name, attribute in ONE.items():
            for value in odd_values():
                error = getattr(errors, name)(value)
                held = getattr(error, attribute)
                self.assertEqual(repr(held), repr(value), name)
                self.assertIsInstance(str(error), str)

    def test_two_attributes_hold_the_arguments_in_their_order(self):
        for name in TWO:
            for value in odd_values():
                error = getattr(errors, name)(value, "b")
                self.assertEqual((repr(error.a), error.b), (repr(value), "b"), name)
                error = getattr(errors, name)("a", value)
                self.assertEqual((error.a, repr(error.b)), ("a", repr(value)), name)

    def test_attributes_belong_to_each_error_alone(self):
        one, other = errors.NotTied(0, 1), errors.NotTied(2, 3)
        self.assertEqual((one.a, one.b, other.a, other.b), (0, 1, 2, 3))

    def test_raised_and_caught_by_name_by_base_and_as_value_error(self):
        for name in NAMES:
            made = [1] if name in ONE else [1, 2]
            for caught in (getattr(errors, name), errors.RootpartsError, ValueError):
                with self.assertRaises(caught):
                    raise getattr(errors, name)(*made)

    def test_each_takes_just_its_arguments(self):
        for name in NAMES:
            right = 1 if name in ONE else 2
            for many in (0, 1, 2, 3):
                if many != right:
                    with self.assertRaises(TypeError):
                        getattr(errors, name)(*range(many))

"""Point 29: the errors."""

import unittest

from sparkrows import errors
from tests.helpers import odd_values

ATTRIBUTES = {
    "BadWidth": "value", "BadPairs": "value", "BadColumns": "value", "BadColumn": "number", "BadCell": "value",
    "OtherFrame": None, "TooShort": "many", "NoSeat": "value", "BadSeats": "value", "BadTable": "value",
    "NoColumns": None, "BadTimes": "value", "NoWeb": "value", "OtherShape": None, "ClosedWeb": None,
    "BadPrices": "value", "BadSize": "value", "NoForecast": None, "CannotJoin": "value", "IsIn": "value",
    "NotIn": "value", "BadNeed": "value", "Nothing": None, "BadLine": "line",
}


class ErrorsTest(unittest.TestCase):

    def test_the_base(self):
        self.assertEqual(errors.SparkError.__bases__, (ValueError,))
        self.assertEqual(errors.SparkError.__module__, "sparkrows.errors")

    def test_each_is_a_direct_subclass(self):
        for name in ATTRIBUTES:
            kind = getattr(errors, name)
            self.assertEqual(kind.__bases__, (errors.SparkError,), name)
            self.assertEqual((kind.__name__, kind.__module__), (name, "sparkrows.errors"))

    def test_there_are_no_others(self):
        kinds = [name for name, kind in vars(errors).items() if isinstance(kind, type)]
        self.assertEqual(sorted(kinds), sorted([*ATTRIBUTES, "SparkError"]))

    def test_those_without_arguments(self):
        for name in [name for name in ATTRIBUTES if ATTRIBUTES[name] is None]:
            with self.assertRaises(errors.SparkError) as caught:
                raise getattr(errors, name)()
            self.assertIs(type(caught.exception), getattr(errors, name))

    def test_the_argument_is_kept_whatever_it_is(self):
        values = odd_values() + [object(), int, 1.5, b"x", {1, 2}]
        for name in [name for name in ATTRIBUTES if ATTRIBUTES[name] is not None]:
            kind, attribute = getattr(errors, name), ATTRIBUTES[name]
            for value in values:
                self.assertIs(getattr(kind(value), attribute), value, name)
                self.assertIs(getattr(kind(**{attribute: value}), attribute), value, name)

    def test_each_can_be_caught_as_a_value_error(self):
        for name in ATTRIBUTES:
            kind = getattr(errors, name)
            with self.assertRaises(ValueError):
                raise kind() if ATTRIBUTES[name] is None else kind(7)

    def test_an_argument_is_asked_for(self):
        for name in [name for name in ATTRIBUTES if ATTRIBUTES[name] is not None]:
            with self.assertRaises(TypeError):
                getattr(errors, name)()


if __name__ == "__main__":
    unittest.main()

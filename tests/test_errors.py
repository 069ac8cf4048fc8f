"""The classes of the errors, and the attributes that they are given."""

import unittest

from barrelrow import errors
from barrelrow.errors import RowError

# All errors, each with keyword arguments.
KINDS = {
    errors.InvalidRow: {"part": "rain", "index": -1},
    errors.UnknownBarrel: {"name": "x"},
    errors.OtherRain: {},
    errors.InvalidNumber: {},
    errors.Contradiction: {},
    errors.InvalidWeather: {"part": "wet"},
    errors.InvalidOperation: {"index": 3},
    errors.InvalidText: {"line": 0},
    errors.DaybookError: {"line": 300},
    errors.DecodeError: {"offset": 7},
}


class Kinds(unittest.TestCase):
    def test_family(self):
        self.assertEqual(RowError.__bases__, (ValueError,))
        for kind in KINDS:
            self.assertTrue(issubclass(kind, RowError))
            for other in KINDS:
                self.assertEqual(issubclass(kind, other), kind is other)

    def test_attributes_are_given_by_keyword(self):
        for kind, told in KINDS.items():
            with self.assertRaises(RowError) as caught:
                raise kind(**told)
            self.assertEqual(vars(caught.exception), told)
            self.assertIs(type(caught.exception), kind)


if __name__ == "__main__":
    unittest.main()

"""The interface 'landlines/errors.py': the refusals and what they stand under."""

import unittest

from landlines import errors

NAMES = ("BadSize", "BadFence", "TooMany", "BadSpot", "BadWay", "NoLand", "NoFence")


class ErrorsTest(unittest.TestCase):
    def test_land_error_stands_straight_under_value_error(self):
        self.assertEqual(errors.LandError.__bases__, (ValueError,))

    def test_each_class_stands_straight_under_land_error(self):
        for name in NAMES:
            with self.subTest(name=name):
                self.assertEqual(getattr(errors, name).__bases__, (errors.LandError,))

    def test_no_class_stands_under_another(self):
        for name in NAMES:
            for other in NAMES:
                if name != other:
                    with self.subTest(name=name, other=other):
                        self.assertFalse(issubclass(getattr(errors, name), getattr(errors, other)))

    def test_each_class_is_defined_here_under_its_own_name(self):
        for name in ("LandError", *NAMES):
            with self.subTest(name=name):
                self.assertEqual(getattr(errors, name).__name__, name)
                self.assertEqual(getattr(errors, name).__module__, "landlines.errors")

    def test_each_class_can_be_raised_and_caught_as_land_error(self):
        for name in NAMES:
            with self.subTest(name=name), self.assertRaises(errors.LandError):
                raise getattr(errors, name)("refused")


if __name__ == "__main__":
    unittest.main()

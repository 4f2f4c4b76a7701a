"""The errors, as the interface's paragraph of twinsum/errors.py tells them."""

import unittest

from twinsum import errors

UNDER = ("NoRow", "NoSum", "NoPlace", "NoBlock", "Full", "Strange")


class Errors(unittest.TestCase):
    def test_twin_error_stands_under_value_error(self):
        self.assertTrue(issubclass(errors.TwinError, ValueError))
        self.assertIsNot(errors.TwinError, ValueError)

    def test_the_six_stand_under_twin_error(self):
        for name in UNDER:
            with self.subTest(name):
                one = getattr(errors, name)
                self.assertTrue(issubclass(one, errors.TwinError))
                self.assertTrue(issubclass(one, ValueError))
                self.assertIsNot(one, errors.TwinError)

    def test_none_of_the_six_stands_under_another(self):
        for name in UNDER:
            for other in UNDER:
                if name != other:
                    with self.subTest(name=name, other=other):
                        self.assertFalse(issubclass(getattr(errors, name), getattr(errors, other)))

    def test_each_is_defined_under_its_name(self):
        for name in ("TwinError",) + UNDER:
            with self.subTest(name):
                self.assertEqual(getattr(errors, name).__name__, name)
                self.assertEqual(getattr(errors, name).__module__, "twinsum.errors")

    def test_each_can_be_raised_and_caught(self):
        for name in ("TwinError",) + UNDER:
            for caught in (getattr(errors, name), errors.TwinError, ValueError):
                with self.subTest(name=name, caught=caught):
                    with self.assertRaises(caught):
                        raise getattr(errors, name)("why")

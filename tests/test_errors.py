"""Promises of the interface's section tillbasket/errors.py."""

import unittest

from tillbasket import errors

NAMES = ["BadKinds", "BadName", "Twice", "BadPrice", "BadBasket", "TooMany", "BadOffer", "NoKind", "NoOffer"]


class Errors(unittest.TestCase):

    def test_till_error_stands_under_value_error(self):
        self.assertEqual(errors.TillError.__bases__, (ValueError,))

    def test_each_refusal_stands_under_till_error(self):
        for name in NAMES:
            with self.subTest(name):
                refusal = getattr(errors, name)
                self.assertEqual(refusal.__bases__, (errors.TillError,))
                self.assertTrue(issubclass(refusal, ValueError))

    def test_none_stands_under_another(self):
        for name in NAMES:
            for other in NAMES:
                if name != other:
                    with self.subTest(name=name, other=other):
                        self.assertFalse(issubclass(getattr(errors, name), getattr(errors, other)))

    def test_each_can_be_raised_and_caught_as_any_refusal(self):
        for name in NAMES:
            with self.subTest(name), self.assertRaises(errors.TillError):
                raise getattr(errors, name)("told")


if __name__ == "__main__":
    unittest.main()

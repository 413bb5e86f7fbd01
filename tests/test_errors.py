"""[3]: the classes of the refusals, and how they stand under one another."""

import unittest

from panelook import errors

NAMES = ["NoSize", "NoSheet", "NoCount", "NoPane", "NoBrother", "NoParent", "NoText"]


class Errors(unittest.TestCase):
    def test_look_error_stands_straight_under_value_error(self):
        self.assertEqual(errors.LookError.__bases__, (ValueError,))

    def test_each_refusal_stands_straight_under_look_error(self):
        for name in NAMES:
            with self.subTest(name=name):
                self.assertEqual(getattr(errors, name).__bases__, (errors.LookError,))
                self.assertEqual(getattr(errors, name).__name__, name)

    def test_none_stands_under_another(self):
        for name in NAMES:
            for other in NAMES:
                with self.subTest(name=name, other=other):
                    under = issubclass(getattr(errors, name), getattr(errors, other))
                    self.assertEqual(under, name == other)

    def test_each_is_caught_as_look_error_and_as_value_error(self):
        for name in NAMES:
            for caught in (errors.LookError, ValueError):
                with self.subTest(name=name, caught=caught), self.assertRaises(caught):
                    raise getattr(errors, name)("why")


if __name__ == "__main__":
    unittest.main()

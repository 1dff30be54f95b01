"""The classes of refusals, as the interface lists them."""

import unittest

from treewalkers import errors

NAMES = (
    "NoWeb", "NoPlace", "NoTree", "NoTie", "NoText", "NoNumber", "NoShares", "NoTwo", "NoStream", "NoPaper", "Apart",
    "TooMany", "NoCode", "NoDeed", "NoLine",
)


class ErrorsTest(unittest.TestCase):
    def test_walk_error_stands_straight_under_value_error(self):
        self.assertEqual(errors.WalkError.__bases__, (ValueError,))

    def test_each_class_stands_straight_under_walk_error(self):
        self.assertEqual(len(NAMES), 15)
        for name in NAMES:
            with self.subTest(name):
                self.assertEqual(getattr(errors, name).__bases__, (errors.WalkError,))
                self.assertEqual(getattr(errors, name).__name__, name)

    def test_none_stands_under_another_one(self):
        for name in NAMES:
            for other in NAMES:
                under = issubclass(getattr(errors, name), getattr(errors, other))
                with self.subTest(name=name, other=other):
                    self.assertEqual(under, name == other)

    def test_each_can_be_raised_and_caught_as_walk_error_and_value_error(self):
        for name in NAMES:
            for base in (errors.WalkError, ValueError):
                with self.subTest(name=name, base=base):
                    with self.assertRaises(base):
                        raise getattr(errors, name)("why")


if __name__ == "__main__":
    unittest.main()

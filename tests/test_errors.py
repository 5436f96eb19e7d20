"""Point 3: the classes of the refusals."""

import unittest

from ledhome import errors

NAMES = [
    "NoWeb", "NoPlace", "NoThings", "NoRound", "NeverHome",
    "TooMany", "NoText", "NoForm", "NoneYet", "NoStep",
]


class Refusals(unittest.TestCase):
    def test_home_error_stands_right_under_value_error(self):
        self.assertEqual(errors.HomeError.__bases__, (ValueError,))
        self.assertEqual(errors.HomeError.__module__, "ledhome.errors")

    def test_each_class_stands_right_under_home_error(self):
        for name in NAMES:
            with self.subTest(name):
                refusal = getattr(errors, name)
                self.assertEqual(refusal.__name__, name)
                self.assertEqual(refusal.__bases__, (errors.HomeError,))
                self.assertEqual(refusal.__module__, "ledhome.errors")

    def test_none_stands_under_another_one(self):
        for one in NAMES:
            for other in NAMES:
                under = issubclass(getattr(errors, one), getattr(errors, other))
                self.assertEqual(under, one == other, (one, other))

    def test_each_can_be_raised_and_caught(self):
        for name in NAMES:
            with self.assertRaises(errors.HomeError):
                raise getattr(errors, name)("why")


if __name__ == "__main__":
    unittest.main()

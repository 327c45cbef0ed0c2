"""The refusals: that each is there, where it stands, what it is made of."""

import unittest

from meanchoice import errors

NAMES = [
    "NoSheet", "NoChoosing", "NoWish", "NoShares", "NoPlace", "NoWay", "NoWays", "NoWeb", "NoNumber", "NoSides",
    "NoOrder", "NoBoard", "NoSigns", "NoIns", "NoBook", "NoDraws", "TooMany", "NoText", "NoRow",
]


class Refusals(unittest.TestCase):
    def test_mean_error_stands_right_under_value_error(self):
        self.assertEqual(errors.MeanError.__bases__, (ValueError,))
        self.assertEqual(str(errors.MeanError("a text")), "a text")

    def test_there_are_nineteen_each_its_own(self):
        self.assertEqual(len({getattr(errors, name) for name in NAMES}), 19)

    def test_each_has_its_name(self):
        for name in NAMES:
            self.assertEqual(getattr(errors, name).__name__, name)

    def test_each_stands_right_under_mean_error(self):
        for name in NAMES:
            refusal = getattr(errors, name)
            self.assertEqual(refusal.__bases__, (errors.MeanError,), name)
            self.assertTrue(issubclass(refusal, ValueError), name)

    def test_none_stands_under_another_one(self):
        for name in NAMES:
            for other in NAMES:
                below = issubclass(getattr(errors, name), getattr(errors, other))
                self.assertEqual(below, name == other, (name, other))

    def test_each_is_made_of_a_text(self):
        for name in NAMES:
            made = getattr(errors, name)("why it is so")
            self.assertEqual(str(made), "why it is so")
            self.assertEqual(made.args, ("why it is so",))

    def test_each_is_caught_as_what_it_stands_under(self):
        for name in NAMES:
            for caught in (getattr(errors, name), errors.MeanError, ValueError):
                with self.assertRaises(caught):
                    raise getattr(errors, name)("a text")


if __name__ == "__main__":
    unittest.main()

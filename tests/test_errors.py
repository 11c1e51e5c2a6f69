"""The error classes of the interface."""

import unittest

from sidinglane import errors

KINDS = ("BadLane", "BadWays", "BadStand", "NoMove", "NoPlace")


class Errors(unittest.TestCase):
    def test_lane_error_stands_straight_under_value_error(self):
        self.assertEqual(errors.LaneError.__bases__, (ValueError,))

    def test_each_kind_stands_straight_under_lane_error(self):
        for name in KINDS:
            with self.subTest(name):
                self.assertEqual(getattr(errors, name).__bases__, (errors.LaneError,))

    def test_each_kind_is_a_class_of_its_own(self):
        for name in KINDS:
            for other in KINDS:
                if name != other:
                    self.assertFalse(issubclass(getattr(errors, name), getattr(errors, other)))

    def test_each_class_is_defined_in_this_file_under_its_name(self):
        for name in ("LaneError",) + KINDS:
            kind = getattr(errors, name)
            self.assertEqual((kind.__module__, kind.__name__), ("sidinglane.errors", name))

    def test_they_can_be_raised_and_caught_as_any_refusal(self):
        for name in KINDS:
            with self.assertRaises(errors.LaneError) as caught:
                raise getattr(errors, name)("why")
            self.assertEqual(str(caught.exception), "why")


if __name__ == "__main__":
    unittest.main()

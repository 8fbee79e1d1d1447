import unittest

from crownwalk import errors

NAMES = ["TooMany", "Stuck", "NoPlace", "Twice", "Lost", "Loose", "NoNote"]


class ErrorsTest(unittest.TestCase):
    def test_walk_error_stands_under_value_error(self):
        self.assertEqual(errors.WalkError.__bases__, (ValueError,))

    def test_each_refusal_stands_straight_under_walk_error(self):
        for name in NAMES:
            with self.subTest(name=name):
                self.assertEqual(getattr(errors, name).__bases__, (errors.WalkError,))

    def test_refusals_are_classes_of_their_own(self):
        self.assertEqual(len({getattr(errors, name) for name in NAMES}), len(NAMES))


if __name__ == "__main__":
    unittest.main()

"""Point 3: the error classes."""

import unittest

from steadybodies import errors

NAMES = (
    "ZeroDenominator", "TextError", "AxisError", "BoxError", "IdError", "TooLarge", "BodyError",
    "OverlapError", "JointError", "PushError", "RowError", "JournalError", "TickError",
)


class ErrorsTest(unittest.TestCase):
    def test_steady_error_stands_directly_under_value_error(self):
        self.assertEqual(errors.SteadyError.__bases__, (ValueError,))

    def test_all_others_stand_directly_under_steady_error(self):
        for name in NAMES:
            with self.subTest(name):
                self.assertEqual(getattr(errors, name).__bases__, (errors.SteadyError,))

    def test_all_are_classes_of_their_own(self):
        classes = [getattr(errors, name) for name in NAMES]
        self.assertEqual([one.__name__ for one in classes], list(NAMES))
        self.assertEqual({one.__module__ for one in classes}, {"steadybodies.errors"})

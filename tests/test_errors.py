"""The interface: the refusals, their fields and what they stand under."""

import unittest

from queuemill import errors

NAMES = ("BadProgram", "BadDeed", "BadFuel", "BadStages", "BadPaper", "BadText")


class Refusals(unittest.TestCase):

    def test_each_stands_straight_under_mill_error(self):
        self.assertEqual(errors.MillError.__bases__, (ValueError,))
        for word in NAMES:
            self.assertEqual(getattr(errors, word).__bases__, (errors.MillError,), word)

    def test_fields(self):
        program = errors.BadProgram(2, 7, "wide")
        self.assertEqual((program.fun, program.at, program.why), (2, 7, "wide"))
        deed = errors.BadDeed(7, "wide")
        self.assertEqual((deed.at, deed.why), (7, "wide"))
        self.assertEqual(errors.BadText(3).place, 3)

    def test_they_tell_something(self):
        self.assertIn("wide", str(errors.BadProgram(2, 7, "wide")))
        self.assertIn("wide", str(errors.BadDeed(7, "wide")))
        self.assertIn("3", str(errors.BadText(3)))


if __name__ == "__main__":
    unittest.main()

"""The error classes of the interface."""

import unittest

from kithbase import errors

GENERAL = ["InvalidArgument", "UncountedChange", "DamagedPacket", "UnfitPacket", "PowerOff", "ReplicaClosed",
           "ReplicaOpen", "NothingToTrim", "QuestionError"]
NAMED = ["UnknownTable", "UnknownColumn", "AmbiguousColumn", "DuplicateSource", "NotGrouped"]
NUMBERED = ["UnknownParameter", "UnknownPosition"]
PLAIN = ["KindMismatch", "ColumnCount", "RowCount", "AggregateNotAllowed", "GroupingNotAllowed", "NothingToShow",
         "NoReason"]


class Errors(unittest.TestCase):
    def test_base_classes(self):
        self.assertEqual(errors.KithbaseError.__bases__, (ValueError,))
        for name in GENERAL:
            self.assertEqual(getattr(errors, name).__bases__, (errors.KithbaseError,), name)
        self.assertEqual(errors.InvalidName.__bases__, (errors.InvalidArgument,))
        for name in NAMED + NUMBERED + PLAIN + ["RefusedText"]:
            self.assertTrue(issubclass(getattr(errors, name), errors.QuestionError), name)

    def test_all_are_defined_here(self):
        for name in ["KithbaseError", "InvalidName", "RefusedText"] + GENERAL + NAMED + NUMBERED + PLAIN:
            self.assertEqual(getattr(errors, name).__module__, "kithbase.errors", name)

    def test_siblings_are_apart(self):
        leaves = ["InvalidName", "RefusedText"] + GENERAL[1:-1] + NAMED + NUMBERED + PLAIN
        for first in leaves:
            for second in leaves:
                related = issubclass(getattr(errors, first), getattr(errors, second))
                self.assertEqual(related, first == second, (first, second))

    def test_attributes(self):
        self.assertEqual(errors.RefusedText(7).position, 7)
        for name in NAMED:
            self.assertEqual(getattr(errors, name)("tasks").name, "tasks", name)
        for name in NUMBERED:
            self.assertEqual(getattr(errors, name)(3).number, 3, name)

    def test_plain_ones_take_a_message(self):
        for name in ["InvalidName"] + GENERAL + PLAIN:
            with self.assertRaises(errors.KithbaseError):
                raise getattr(errors, name)("a message")
            with self.assertRaises(ValueError):
                raise getattr(errors, name)()


if __name__ == "__main__":
    unittest.main()

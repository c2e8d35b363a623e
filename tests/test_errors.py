"""The error classes (point 1 and the interface)."""

import unittest

from mirrorturns import errors

PLAIN = ["UnknownPort", "UnknownTile", "InvalidNumber", "OtherRoom", "TooMany", "Contradiction",
         "NotTurning", "InvalidName", "UnknownName"]


class Errors(unittest.TestCase):

    def test_base_class(self):
        self.assertEqual(errors.MirrorError.__bases__, (ValueError,))

    def test_all_others_are_direct_subclasses(self):
        for name in PLAIN + ["InvalidRoom", "InvalidOperation"]:
            with self.subTest(name):
                self.assertEqual(getattr(errors, name).__bases__, (errors.MirrorError,))
                self.assertEqual(getattr(errors, name).__module__, "mirrorturns.errors")

    def test_invalid_room_has_row_and_column(self):
        for error in (errors.InvalidRoom(3, 5), errors.InvalidRoom(row=3, column=5)):
            self.assertEqual((error.row, error.column), (3, 5))

    def test_invalid_operation_has_place(self):
        for error in (errors.InvalidOperation(4), errors.InvalidOperation(place=4)):
            self.assertEqual(error.place, 4)

    def test_plain_errors_can_be_raised_and_caught(self):
        for name in PLAIN:
            with self.subTest(name), self.assertRaises(errors.MirrorError):
                raise getattr(errors, name)


if __name__ == "__main__":
    unittest.main()

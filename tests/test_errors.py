"""The refusals: their names, and how they stand under one another."""

import unittest

from slabroom import errors

KINDS = ("BadPlan", "BadWish", "TooLarge", "NoSize", "NoRoom", "NotOut", "OutOfThing")


class Errors(unittest.TestCase):

    def test_a_room_error_is_a_value_error(self):
        self.assertEqual(errors.RoomError.__bases__, (ValueError,))

    def test_each_kind_is_straight_under_room_error(self):
        for name in KINDS:
            with self.subTest(name):
                self.assertEqual(getattr(errors, name).__bases__, (errors.RoomError,))

    def test_no_kind_is_under_another_one(self):
        for name in KINDS:
            for other in KINDS:
                if name != other:
                    with self.subTest(name=name, other=other):
                        self.assertFalse(issubclass(getattr(errors, name), getattr(errors, other)))

    def test_each_is_defined_in_the_file_errors(self):
        for name in ("RoomError",) + KINDS:
            with self.subTest(name):
                kind = getattr(errors, name)
                self.assertEqual((kind.__module__, kind.__name__), ("slabroom.errors", name))

    def test_each_kind_is_caught_as_room_error_and_as_value_error(self):
        for name in KINDS:
            for caught in (errors.RoomError, ValueError):
                with self.subTest(name=name, caught=caught):
                    with self.assertRaises(caught):
                        raise getattr(errors, name)("refused")


if __name__ == "__main__":
    unittest.main()

"""The refusals (DOC.md, logreplica/errors.py)."""

import unittest

from logreplica import errors
from logreplica.errors import NoKeeper, NoRoom, NotLeading, OutOfPlace, RoomError

BELOW = [NoRoom, NoKeeper, NotLeading, OutOfPlace]


class Refusals(unittest.TestCase):
    def test_a_room_error_is_a_value_error(self):
        self.assertEqual(RoomError.__bases__, (ValueError,))

    def test_each_stands_below_room_error(self):
        for refusal in BELOW:
            with self.subTest(refusal=refusal.__name__):
                self.assertTrue(issubclass(refusal, RoomError))
                self.assertIsNot(refusal, RoomError)

    def test_none_stands_below_another(self):
        for refusal in BELOW:
            for other in BELOW:
                if refusal is not other:
                    with self.subTest(refusal=refusal.__name__, other=other.__name__):
                        self.assertFalse(issubclass(refusal, other))

    def test_each_is_caught_as_a_room_error_and_as_a_value_error(self):
        for refusal in BELOW:
            for caught in (refusal, RoomError, ValueError):
                with self.subTest(refusal=refusal.__name__, caught=caught.__name__):
                    with self.assertRaises(caught):
                        raise refusal("why")

    def test_each_is_raised_by_its_own_name(self):
        for name in ("RoomError", "NoRoom", "NoKeeper", "NotLeading", "OutOfPlace"):
            with self.subTest(name=name):
                refusal = getattr(errors, name)
                self.assertEqual(refusal.__name__, name)
                self.assertEqual(refusal.__module__, "logreplica.errors")


if __name__ == "__main__":
    unittest.main()

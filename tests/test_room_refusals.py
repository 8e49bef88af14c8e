"""What a room refuses (DOC.md, point 10 and the interface of logreplica/rooms.py)."""

import itertools
import unittest

from logreplica.errors import NoKeeper, NoRoom, NotLeading, OutOfPlace, RoomError
from logreplica.rooms import Room
from room_view import hand_all, led, seen

CLASSES = (NoRoom, NoKeeper, NotLeading, OutOfPlace)
COUNT = 3
NO_KEEPERS = (-1, -2, -3, COUNT, COUNT + 1, 10 ** 20, -(10 ** 20), 10 ** 5000)


def busy():
    """0 leads in term 1; all hold an entry, 0 and 1 know it settled, and 0 has one more."""
    room = led(COUNT, ["a"])
    hand_all(room, 0, [1, 2])
    room.settle(0)
    hand_all(room, 0, [1])
    room.write(0, "b")
    return room


class Refusing(unittest.TestCase):
    def refused(self, refusal, call):
        with self.assertRaises(RoomError) as caught:
            call()
        error = caught.exception
        self.assertIsInstance(error, ValueError)
        for each in CLASSES:
            self.assertIs(isinstance(error, each), each is refusal, (each, error))

    def refused_and_unchanged(self, refusal, room, name, *arguments):
        before = seen(room, COUNT)
        # The arguments are not shown: Python does not write out every number.
        with self.subTest(name=name):
            self.refused(refusal, lambda: getattr(room, name)(*arguments))
            self.assertEqual(seen(room, COUNT), before)


class NoRoomIsRaised(Refusing):
    def test_numbers_out_of_bounds(self):
        for count in (0, -1, 10, 11, -9, 10 ** 20, -(10 ** 20), 10 ** 5000):
            self.refused(NoRoom, lambda: Room(count))

    def test_truths(self):
        for count in (True, False):
            self.refused(NoRoom, lambda: Room(count))

    def test_what_is_no_whole_number(self):
        for count in (None, "", "3", b"3", [], [3], (), (3,), {}, {3: 3}, {3}, 3.0, 2.5, Room):
            self.refused(NoRoom, lambda: Room(count))

    def test_the_bounds_are_good(self):
        for count in (1, 9):
            self.assertEqual(len(seen(Room(count), count)), count)


class NoKeeperIsRaised(Refusing):
    def test_by_each_method_for_k(self):
        calls = (
            ("stand", [1, 2]), ("stand", []), ("write", "x"), ("hand", 1, 1), ("settle",),
            ("rest",), ("term_of",), ("row_of",), ("leading",), ("settled_of",),
        )
        for k, (name, *more) in itertools.product(NO_KEEPERS, calls):
            self.refused_and_unchanged(NoKeeper, busy(), name, k, *more)

    def test_in_a_room_of_one_and_of_nine(self):
        for count in (1, 9):
            for k in (-1, -count, count, 10 ** 20):
                for name in ("rest", "term_of", "row_of", "leading", "settled_of"):
                    self.refused(NoKeeper, lambda: getattr(Room(count), name)(k))

    def test_among_those_asked_wherever_it_stands(self):
        for bad in NO_KEEPERS:
            for others in ([bad], [1, 2, bad], [bad, 1, 2], [1, bad, 2], [0, 1, 1, 2, bad]):
                self.refused_and_unchanged(NoKeeper, busy(), "stand", 0, others)
                self.refused_and_unchanged(NoKeeper, busy(), "stand", 2, others)
                self.refused_and_unchanged(NoKeeper, busy(), "stand", bad, others)

    def test_one_that_stood_with_a_wrong_one_goes_on_leading_with_what_it_knew(self):
        room = busy()
        self.refused_and_unchanged(NoKeeper, room, "stand", 0, [1, 2, COUNT])
        self.assertIs(room.hand(0, 1, 1), True)
        self.assertEqual(room.row_of(1), [(1, "a"), (1, "b")])
        self.assertEqual(room.settle(0), 2)

    def test_for_the_one_that_is_handed_to(self):
        for bad, many in itertools.product(NO_KEEPERS, (0, 1, 10 ** 20)):
            self.refused_and_unchanged(NoKeeper, busy(), "hand", 0, bad, many)

    def test_a_hand_to_itself(self):
        for many in (0, 1, 10 ** 20):
            self.refused_and_unchanged(NoKeeper, busy(), "hand", 0, 0, many)

    def test_a_hand_to_itself_in_a_room_of_one(self):
        room = led(1, ["a"])
        self.refused(NoKeeper, lambda: room.hand(0, 0, 1))

    def test_ahead_of_not_leading(self):
        for bad in NO_KEEPERS:
            self.refused_and_unchanged(NoKeeper, busy(), "hand", 1, bad, 1)
            self.refused_and_unchanged(NoKeeper, busy(), "hand", bad, 0, 1)
            self.refused_and_unchanged(NoKeeper, busy(), "hand", bad, bad, 1)
            self.refused_and_unchanged(NoKeeper, busy(), "write", bad, "x")
            self.refused_and_unchanged(NoKeeper, busy(), "settle", bad)
        for k in (1, 2):
            self.refused_and_unchanged(NoKeeper, busy(), "hand", k, k, 1)


class NotLeadingIsRaised(Refusing):
    def refused_all(self, room, k):
        self.refused_and_unchanged(NotLeading, room, "write", k, "x")
        self.refused_and_unchanged(NotLeading, room, "settle", k)
        for other in range(COUNT):
            if other != k:
                for many in (0, 1, 10 ** 20):
                    self.refused_and_unchanged(NotLeading, room, "hand", k, other, many)

    def test_of_one_that_never_stood(self):
        for k in range(COUNT):
            self.refused_all(Room(COUNT), k)
        for k in (1, 2):
            self.refused_all(busy(), k)

    def test_of_one_that_stood_in_vain(self):
        room = busy()
        self.assertIs(room.stand(0, []), False)
        self.refused_all(room, 0)

    def test_of_one_that_was_asked_in_a_greater_term(self):
        room = busy()
        room.stand(2, [0])
        self.refused_all(room, 0)

    def test_of_one_that_handed_to_a_greater_term(self):
        room = busy()
        room.stand(2, [])
        self.assertIs(room.hand(0, 2, 1), False)
        self.refused_all(room, 0)

    def test_of_one_that_was_handed_on_to_from_a_greater_term(self):
        room = busy()
        self.assertIs(room.stand(1, [2]), True)
        self.assertIs(room.hand(1, 0, 1), True)
        self.refused_all(room, 0)

    def test_of_one_that_woke_anew(self):
        room = busy()
        room.rest(0)
        self.refused_all(room, 0)

    def test_the_others_are_not_refused(self):
        room = busy()
        for k in (1, 2):
            room.rest(k)
            self.assertIs(room.leading(k), False)
            self.assertIs(room.stand(k, []), False)


if __name__ == "__main__":
    unittest.main()

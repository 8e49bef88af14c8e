"""Points 10 to 15 of DOC.md, with points 1 and 2 as far as they bear on a room."""

import itertools
import unittest

from logreplica.rooms import Room
from room_view import hand_all, led, seen

FAR_MORE = 10 ** 20
WIDE = "".join(chr(n) for n in range(32, 127) if chr(n) != "%") + "x" * 35  # 129 signs
METHODS = (
    "stand", "write", "hand", "settle", "rest", "term_of", "row_of", "leading", "settled_of",
)


class Interface(unittest.TestCase):
    def test_the_class_and_its_methods_are_defined_in_rooms(self):
        self.assertEqual(Room.__module__, "logreplica.rooms")
        for name in ("__init__",) + METHODS:
            with self.subTest(name=name):
                self.assertIn(name, vars(Room))

    def test_the_arguments_have_the_names_told(self):
        room = Room(count=3)
        self.assertIs(room.stand(k=0, others=[1]), True)
        self.assertEqual(room.write(k=0, word="a"), 0)
        self.assertIs(room.hand(k=0, other=1, many=1), True)
        self.assertEqual(room.settle(k=0), 1)
        self.assertEqual(room.term_of(k=0), 1)
        self.assertEqual(room.row_of(k=0), [(1, "a")])
        self.assertIs(room.leading(k=0), True)
        self.assertEqual(room.settled_of(k=0), [(1, "a")])
        self.assertIsNone(room.rest(k=0))


class Made(unittest.TestCase):
    """Point 10."""

    def test_each_good_count(self):
        for count in range(1, 10):
            self.assertEqual(seen(Room(count), count), [(0, [], False, [])] * count)

    def test_the_rows_are_apart(self):
        room = led(9, ["a"], by=4)
        self.assertEqual([room.row_of(k) for k in range(9)], [[]] * 4 + [[(1, "a")]] + [[]] * 4)

    def test_two_rooms_are_apart(self):
        one, two = Room(3), Room(3)
        one.stand(0, [1, 2])
        one.write(0, "a")
        self.assertEqual(seen(two, 3), [(0, [], False, [])] * 3)


class Stand(unittest.TestCase):
    """Point 11."""

    def test_it_leads_with_more_voices_than_half(self):
        room = Room(3)
        self.assertIs(room.stand(0, [1]), True)
        self.assertEqual(
            seen(room, 3), [(1, [], True, []), (1, [], False, []), (0, [], False, [])]
        )

    def test_for_each_count_how_many_others_it_takes(self):
        for count in range(1, 10):
            for k, asked in itertools.product(range(count), range(count)):
                others = [n for n in range(count) if n != k][:asked]
                room = Room(count)
                leads = 2 * (1 + asked) > count
                self.assertIs(room.stand(k, others), leads, (count, k, asked))
                self.assertIs(room.leading(k), leads)
                self.assertEqual(
                    [room.term_of(n) for n in range(count)],
                    [1 if n == k or n in others else 0 for n in range(count)],
                )

    def test_half_of_an_even_count_is_not_enough(self):
        for count in (2, 4, 6, 8):
            room = Room(count)
            self.assertIs(room.stand(0, list(range(1, count // 2))), False)
            self.assertIs(room.stand(0, list(range(1, count // 2 + 1))), True)

    def test_one_alone_leads_as_soon_as_it_stands(self):
        for others in ([], [0], [0, 0]):
            room = Room(1)
            self.assertIs(room.stand(0, others), True)
            self.assertEqual(seen(room, 1), [(1, [], True, [])])

    def test_asking_nobody(self):
        room = Room(3)
        for term in (1, 2, 3):
            self.assertIs(room.stand(2, []), False)
            self.assertEqual(seen(room, 3), [(0, [], False, [])] * 2 + [(term, [], False, [])])

    def test_asking_itself_gives_no_more_than_its_one_voice(self):
        room = Room(3)
        self.assertIs(room.stand(0, [0, 0, 0]), False)
        self.assertEqual(seen(room, 3), [(1, [], False, [])] + [(0, [], False, [])] * 2)
        self.assertIs(room.stand(0, [0, 1, 0]), True)

    def test_asking_the_same_one_twice_gives_one_voice(self):
        room = Room(5)
        self.assertIs(room.stand(0, [1, 1, 1, 1]), False)
        self.assertEqual(room.term_of(1), 1)
        self.assertIs(room.stand(0, [1, 1, 2]), True)

    def test_each_one_asked_hears_of_the_term_also_behind_the_needed_voices(self):
        room = Room(3)
        self.assertIs(room.stand(0, [2, 1]), True)
        self.assertEqual([room.term_of(k) for k in range(3)], [1, 1, 1])

    def test_one_of_a_greater_term_gives_none_and_is_not_heard(self):
        room = Room(3)
        room.stand(1, [])
        room.stand(1, [])
        before = seen(room, 3)
        self.assertIs(room.stand(0, [1]), False)
        self.assertEqual(seen(room, 3), [(1, [], False, [])] + before[1:])
        self.assertIs(room.stand(0, [1]), False)
        self.assertIs(room.stand(0, [1]), True)
        self.assertEqual(room.term_of(0), 3)

    def test_one_of_the_same_term_gives_none(self):
        room = Room(3)
        room.stand(1, [])
        self.assertIs(room.stand(0, [1]), False)
        self.assertEqual([room.term_of(k) for k in range(3)], [1, 1, 0])

    def test_all_are_asked_in_the_one_term_whatever_they_tell(self):
        room = Room(3)
        for _ in range(3):
            room.stand(1, [])
        self.assertIs(room.stand(0, [1, 2]), True)
        self.assertEqual([room.term_of(k) for k in range(3)], [1, 3, 1])

    def test_a_newer_row_gives_none_but_takes_the_term(self):
        room = led(3, ["a"])
        room.stand(1, [])
        self.assertIs(room.stand(1, [0]), False)
        self.assertEqual(
            seen(room, 3), [(3, [(1, "a")], False, []), (3, [], False, []), (1, [], False, [])]
        )
        self.assertIs(room.stand(1, [2]), True)

    def test_the_row_of_the_one_that_stands_counts(self):
        room = led(3, ["a"])
        hand_all(room, 0, [1])
        self.assertIs(room.stand(2, [0, 1]), False)
        self.assertIs(room.stand(1, [0]), True)
        self.assertEqual([room.term_of(k) for k in range(3)], [3, 3, 2])

    def test_one_that_leads_and_is_asked_in_a_greater_term_leads_no_more(self):
        for others in ([0], [0, 2]):
            room = led(3)
            self.assertIs(room.stand(1, others), True)
            self.assertIs(room.leading(0), False)

    def test_one_that_leads_and_is_not_asked_goes_on_leading(self):
        room = led(3)
        self.assertIs(room.stand(1, [2]), True)
        self.assertEqual([room.leading(k) for k in range(3)], [True, True, False])
        self.assertEqual([room.term_of(k) for k in range(3)], [1, 2, 2])

    def test_rows_and_what_is_settled_stay(self):
        room = led(3, ["a", "b"])
        hand_all(room, 0, [1, 2], 1)
        self.assertEqual(room.settle(0), 1)
        hand_all(room, 0, [1])
        before = seen(room, 3)
        self.assertIs(room.stand(2, [1]), False)
        self.assertIs(room.stand(1, [2]), True)
        self.assertEqual(
            [(row, settled) for _, row, _, settled in seen(room, 3)],
            [(row, settled) for _, row, _, settled in before],
        )

    def test_a_voice_that_was_given_is_not_given_again_in_that_term(self):
        room = Room(3)
        self.assertIs(room.stand(0, [2]), True)
        self.assertIs(room.stand(1, [2]), False)


class StandAgain(unittest.TestCase):
    """Point 11: what begins anew."""

    def test_the_term_rises_again(self):
        room = led(3)
        for term in (2, 3, 4):
            self.assertIs(room.stand(0, [1, 2]), True)
            self.assertEqual([room.term_of(k) for k in range(3)], [term] * 3)
            self.assertEqual([room.leading(k) for k in range(3)], [True, False, False])

    def test_without_enough_voices_it_leads_no_more(self):
        for others in ([], [0]):
            room = led(3, ["a"])
            self.assertIs(room.stand(0, others), False)
            self.assertEqual(room.term_of(0), 2)
            self.assertIs(room.leading(0), False)

    def test_the_place_is_the_end_of_the_row_as_it_is_then(self):
        room = led(3, ["a", "b", "c"])
        self.assertIs(room.stand(0, [1, 2]), True)
        for other in (1, 2):
            told = [room.hand(0, other, FAR_MORE) for _ in range(5)]
            self.assertEqual(told, [False, False, False, True, True])

    def test_the_place_does_not_move_with_words_written_later(self):
        room = led(3, ["a", "b"])
        hand_all(room, 0, [1])
        self.assertIs(room.stand(0, [1]), True)
        room.write(0, "c")
        self.assertIs(room.hand(0, 1, 1), True)
        self.assertEqual(room.row_of(1), [(1, "a"), (1, "b"), (2, "c")])

    def test_a_place_that_had_gone_down_begins_anew(self):
        room = led(3, ["a"])
        hand_all(room, 0, [1])
        self.assertIs(room.stand(0, [1]), True)
        self.assertIs(room.hand(0, 2, 1), False)
        self.assertIs(room.stand(0, [1]), True)
        self.assertEqual([room.hand(0, 2, 1) for _ in range(2)], [False, True])

    def test_what_was_known_to_be_held_is_known_no_more(self):
        room = led(5, ["a", "b", "c"])
        hand_all(room, 0, [1])
        self.assertIs(room.stand(2, [3, 4]), True)
        room.write(2, "x")
        hand_all(room, 2, [0, 1])
        self.assertIs(room.stand(0, [1, 2, 3]), True)
        room.write(0, "y")
        hand_all(room, 0, [3])
        self.assertEqual([len(room.row_of(k)) for k in range(5)], [2, 1, 1, 2, 0])
        self.assertEqual(room.settle(0), 0)
        hand_all(room, 0, [1])
        self.assertEqual(room.settle(0), 2)

    def test_what_one_knows_to_be_settled_it_goes_on_knowing(self):
        room = led(3, ["a"])
        hand_all(room, 0, [1])
        self.assertEqual(room.settle(0), 1)
        self.assertIs(room.stand(0, [1]), True)
        self.assertEqual(room.settled_of(0), [(1, "a")])
        self.assertEqual(room.settle(0), 1)


class Write(unittest.TestCase):
    """Point 12."""

    def test_the_places_told_count_from_0(self):
        room = led(3)
        self.assertEqual([room.write(0, word) for word in ("a", "b", "a")], [0, 1, 2])
        self.assertEqual(room.row_of(0), [(1, "a"), (1, "b"), (1, "a")])

    def test_nothing_else_changes(self):
        room = led(3, ["a"])
        before = seen(room, 3)
        room.write(0, "b")
        self.assertEqual(
            seen(room, 3), [(1, [(1, "a"), (1, "b")], True, [])] + before[1:]
        )

    def test_the_entry_is_of_the_term_it_leads_in(self):
        room = led(3, ["a"])
        room.stand(0, [])
        room.stand(0, [1])
        self.assertEqual(room.write(0, "b"), 1)
        self.assertEqual(room.row_of(0), [(1, "a"), (3, "b")])

    def test_the_empty_word_and_a_wide_one(self):
        self.assertEqual(len(WIDE), 129)
        room = led(1, ["", WIDE])
        self.assertEqual(room.row_of(0), [(1, ""), (1, WIDE)])

    def test_many_words(self):
        room = led(1)
        self.assertEqual([room.write(0, str(n)) for n in range(700)], list(range(700)))
        self.assertEqual(room.row_of(0), [(1, str(n)) for n in range(700)])


class Hand(unittest.TestCase):
    """Point 13."""

    def test_the_first_entries_so_many_at_most(self):
        words = ["a", "b", "c"]
        row = [(1, word) for word in words]
        for many in (1, 2, 3, 4, FAR_MORE):
            room = led(3, words)
            self.assertIs(room.hand(0, 1, many), True)
            self.assertEqual(
                seen(room, 3), [(1, row, True, []), (1, row[:many], False, []), (1, [], False, [])]
            )

    def test_the_next_hand_goes_on_behind_the_last(self):
        room = led(3, ["a", "b", "c", "d", "e"])
        lengths = []
        for many in (2, 0, 1, 5, 5):
            self.assertIs(room.hand(0, 1, many), True)
            lengths.append(len(room.row_of(1)))
        self.assertEqual(lengths, [2, 2, 3, 5, 5])
        self.assertEqual(room.row_of(1), room.row_of(0))

    def test_no_entry_is_told_true_and_changes_no_row(self):
        room = led(3, ["a", "b"])
        before = seen(room, 3)
        self.assertIs(room.hand(0, 1, 0), True)
        self.assertEqual(seen(room, 3), before)
        self.assertIs(room.hand(0, 1, 1), True)
        self.assertEqual(room.row_of(1), [(1, "a")])

    def test_fewer_than_none_is_none(self):
        room = led(3, ["a", "b", "c"])
        before = seen(room, 3)
        for many in (-1, -2, -FAR_MORE):
            self.assertIs(room.hand(0, 1, many), True)
            self.assertEqual(seen(room, 3), before)

    def test_an_empty_row_is_handed_on(self):
        room = led(2)
        before = seen(room, 2)
        self.assertIs(room.hand(0, 1, FAR_MORE), True)
        self.assertEqual(seen(room, 2), before)

    def test_the_same_hand_over_again_changes_nothing(self):
        room = led(3, ["a", "b"])
        self.assertIs(room.hand(0, 1, 2), True)
        before = seen(room, 3)
        for _ in range(3):
            self.assertIs(room.hand(0, 1, 2), True)
            self.assertEqual(seen(room, 3), before)
        self.assertEqual(room.settle(0), 2)

    def test_by_one_that_is_not_the_first(self):
        room = led(4, ["a"], by=2)
        for other in (0, 1, 3):
            self.assertIs(room.hand(2, other, 1), True)
            self.assertEqual(room.row_of(other), [(1, "a")])

    def test_each_other_one_has_a_place_of_its_own(self):
        room = led(3, ["a", "b"])
        self.assertIs(room.hand(0, 1, 2), True)
        self.assertIs(room.hand(0, 2, 1), True)
        self.assertEqual([len(room.row_of(k)) for k in range(3)], [2, 2, 1])


class HandToAGreaterTerm(unittest.TestCase):
    """Point 13, the first case."""

    def test_the_leading_one_hears_of_it_and_leads_no_more(self):
        for stands in (1, 2, 3):
            room = led(3, ["a"])
            for _ in range(stands):
                room.stand(1, [])
            before = seen(room, 3)
            self.assertIs(room.hand(0, 1, FAR_MORE), False)
            self.assertEqual(
                seen(room, 3), [(1 + stands, [(1, "a")], False, [])] + before[1:]
            )

    def test_what_it_knows_to_be_settled_stays(self):
        room = led(3, ["a"])
        hand_all(room, 0, [2])
        room.settle(0)
        room.stand(1, [])
        self.assertIs(room.hand(0, 1, 1), False)
        self.assertEqual(room.settled_of(0), [(1, "a")])
        self.assertEqual(room.settled_of(1), [])

    def test_the_other_one_goes_on_leading(self):
        room = led(3, ["a"])
        self.assertIs(room.stand(1, [2]), True)
        self.assertIs(room.hand(0, 1, 1), False)
        self.assertEqual([room.leading(k) for k in range(3)], [False, True, False])
        self.assertEqual(room.row_of(1), [])


class HandToALesserTerm(unittest.TestCase):
    """Point 13, the other one hears of the term."""

    def test_where_its_row_agrees(self):
        room = Room(3)
        room.stand(0, [1])
        self.assertIs(room.hand(0, 2, 0), True)
        self.assertEqual([room.term_of(k) for k in range(3)], [1, 1, 1])

    def test_where_its_row_does_not_agree(self):
        room = Room(3)
        room.stand(0, [1])
        room.write(0, "a")
        room.stand(0, [1])
        self.assertIs(room.hand(0, 2, 1), False)
        self.assertEqual(
            seen(room, 3),
            [(2, [(1, "a")], True, []), (2, [], False, []), (2, [], False, [])],
        )

    def test_one_that_leads_in_a_lesser_term_leads_no_more(self):
        room = led(3, ["x"])
        self.assertIs(room.stand(1, [2]), True)
        self.assertIs(room.leading(0), True)
        self.assertIs(room.hand(1, 0, 0), True)
        self.assertEqual(seen(room, 3)[0], (2, [(1, "x")], False, []))


class HandToARowThatDoesNotAgree(unittest.TestCase):
    """Point 13, the second case, and the filling behind it."""

    def rivals(self):
        """0 has four entries of term 1; 1 leads in term 2, with one of them and one of its own."""
        room = led(3, ["a", "b", "c", "d"])
        hand_all(room, 0, [1, 2], 1)
        self.assertIs(room.stand(1, [2]), True)
        room.write(1, "x")
        return room

    def test_the_place_goes_down_by_one_each_time(self):
        for have in range(5):
            room = led(3, ["a", "b", "c", "d"])
            hand_all(room, 0, [2])
            self.assertIs(room.hand(0, 1, have), True)
            self.assertIs(room.stand(0, [2]), True)
            told = [room.hand(0, 1, FAR_MORE) for _ in range(4 - have)]
            self.assertEqual(told, [False] * (4 - have))
            self.assertEqual(len(room.row_of(1)), have)
            self.assertIs(room.hand(0, 1, FAR_MORE), True)
            self.assertEqual(room.row_of(1), room.row_of(0))

    def test_nothing_else_changes(self):
        room = led(3, ["a", "b"])
        hand_all(room, 0, [2])
        self.assertEqual(room.settle(0), 2)
        self.assertIs(room.stand(0, [1, 2]), True)
        before = seen(room, 3)
        for _ in range(2):
            self.assertIs(room.hand(0, 1, FAR_MORE), False)
            self.assertEqual(seen(room, 3), before)

    def test_nothing_is_known_to_be_held_by_it(self):
        room = led(3, ["a", "b"])
        self.assertIs(room.stand(0, [1, 2]), True)
        room.write(0, "c")
        self.assertIs(room.hand(0, 1, FAR_MORE), False)
        self.assertEqual(room.settle(0), 0)

    def test_entries_of_another_term_behind_go(self):
        room = self.rivals()
        self.assertIs(room.hand(1, 0, FAR_MORE), True)
        self.assertEqual(seen(room, 3)[0], (2, [(1, "a"), (2, "x")], False, []))

    def test_entries_behind_stay_where_none_is_handed_on(self):
        room = self.rivals()
        self.assertIs(room.hand(1, 0, 0), True)
        self.assertEqual(room.row_of(0), [(1, "a"), (1, "b"), (1, "c"), (1, "d")])

    def test_entries_behind_stay_where_those_handed_on_are_all_there(self):
        room = led(3, ["a", "b", "c"])
        hand_all(room, 0, [1])
        hand_all(room, 0, [2], 1)
        self.assertIs(room.stand(0, [2]), True)
        for _ in range(3):
            room.hand(0, 2, 1)
        self.assertIs(room.hand(0, 2, 1), True)
        self.assertEqual(len(room.row_of(2)), 3)
        self.assertEqual(room.row_of(2), room.row_of(0))

    def test_a_row_of_another_term_at_the_place_agrees_further_ahead(self):
        room = self.rivals()
        hand_all(room, 1, [2])
        self.assertIs(room.stand(2, [1]), True)
        room.write(2, "y")
        told = [room.hand(2, 0, 1) for _ in range(4)]
        self.assertEqual(told, [False, True, True, True])
        self.assertEqual(room.row_of(0), [(1, "a"), (2, "x"), (3, "y")])

    def test_the_term_ahead_of_the_place_is_the_leading_rows(self):
        room = led(2, ["a", "b"])
        hand_all(room, 0, [1])
        self.assertIs(room.stand(1, [0]), True)
        room.write(1, "c")
        self.assertIs(room.hand(1, 0, 1), True)
        self.assertEqual(room.row_of(0), [(1, "a"), (1, "b"), (2, "c")])


class HandOnWhatIsSettled(unittest.TestCase):
    """Point 13, the third case: what is known to be held, and to be settled."""

    def test_the_known_number_is_handed_on(self):
        room = led(3, ["a", "b"])
        hand_all(room, 0, [1])
        self.assertEqual(room.settle(0), 2)
        self.assertEqual(room.settled_of(1), [])
        self.assertIs(room.hand(0, 1, 0), True)
        self.assertEqual(room.settled_of(1), [(1, "a"), (1, "b")])
        self.assertEqual(room.settled_of(2), [])

    def test_not_above_what_the_other_one_is_now_known_to_hold(self):
        room = led(3, ["a", "b", "c"])
        hand_all(room, 0, [1], 2)
        self.assertEqual(room.settle(0), 2)
        known = []
        for many in (0, 1, 0, 1, 1, 1):
            self.assertIs(room.hand(0, 2, many), True)
            known.append((len(room.row_of(2)), len(room.settled_of(2))))
        self.assertEqual(known, [(0, 0), (1, 1), (1, 1), (2, 2), (3, 2), (3, 2)])

    def test_entries_that_are_not_known_to_be_held_are_not_known_to_be_settled(self):
        room = led(5, ["a", "b", "c"], by=2)
        self.assertIs(room.stand(0, [3, 4]), True)
        room.write(0, "x")
        room.write(0, "y")
        hand_all(room, 0, [3, 4])
        self.assertEqual(room.settle(0), 2)
        self.assertIs(room.hand(0, 2, 0), True)
        self.assertEqual(seen(room, 5)[2], (2, [(1, "a"), (1, "b"), (1, "c")], False, []))
        self.assertIs(room.hand(0, 2, 1), True)
        self.assertEqual(seen(room, 5)[2], (2, [(2, "x")], False, [(2, "x")]))

    def test_a_leading_one_of_a_new_term_hands_on_what_it_knew_already(self):
        room = led(3, ["a", "b"])
        hand_all(room, 0, [1])
        self.assertEqual(room.settle(0), 2)
        self.assertIs(room.stand(0, [1]), True)
        self.assertEqual(room.settled_of(1), [])
        self.assertIs(room.hand(0, 1, 0), True)
        self.assertEqual(room.settled_of(1), [(1, "a"), (1, "b")])

    def test_it_never_falls_by_one_that_knows_less(self):
        room = led(3, ["a", "b"])
        hand_all(room, 0, [1, 2])
        self.assertEqual(room.settle(0), 2)
        hand_all(room, 0, [1])
        self.assertIs(room.stand(2, [0, 1]), True)
        self.assertEqual(room.settled_of(2), [])
        for other in (0, 1):
            self.assertIs(room.hand(2, other, FAR_MORE), True)
            self.assertEqual(room.settled_of(other), [(1, "a"), (1, "b")])

    def test_it_is_not_handed_on_where_the_row_does_not_agree(self):
        room = led(3, ["a"])
        hand_all(room, 0, [1])
        self.assertEqual(room.settle(0), 1)
        self.assertIs(room.stand(0, [1]), True)
        self.assertIs(room.hand(0, 2, 1), False)
        self.assertEqual(room.settled_of(2), [])

    def test_one_that_is_handed_no_entry_is_known_to_hold_what_is_ahead_of_the_place(self):
        room = led(5, ["a", "b"])
        hand_all(room, 0, [1, 2])
        self.assertEqual(room.settle(0), 2)
        self.assertIs(room.stand(0, [1, 2]), True)
        for other in (1, 2):
            self.assertIs(room.hand(0, other, 0), True)
            self.assertEqual(len(room.settled_of(other)), 2)


class Settle(unittest.TestCase):
    """Point 14."""

    def test_what_more_than_half_hold(self):
        room = led(3, ["a", "b", "c"])
        self.assertEqual(room.settle(0), 0)
        self.assertEqual(room.settled_of(0), [])
        room.hand(0, 1, 2)
        self.assertEqual(room.settle(0), 2)
        self.assertEqual(room.settled_of(0), [(1, "a"), (1, "b")])
        room.hand(0, 2, 3)
        self.assertEqual(room.settle(0), 3)
        self.assertEqual(room.settle(0), 3)

    def test_for_each_count_how_many_others_it_takes(self):
        for count in range(1, 10):
            for k, holding in itertools.product((0, count - 1), range(count)):
                room = led(count, ["a", "b"], by=k)
                hand_all(room, k, [n for n in range(count) if n != k][:holding], 1)
                want = 0 if 2 * (holding + 1) <= count else 2 if count == 1 else 1
                self.assertEqual(room.settle(k), want, (count, k, holding))

    def test_half_of_an_even_count_is_not_enough(self):
        room = led(4, ["a"])
        room.hand(0, 1, 1)
        self.assertEqual(room.settle(0), 0)
        room.hand(0, 2, 1)
        self.assertEqual(room.settle(0), 1)

    def test_entries_that_were_not_handed_on_do_not_count(self):
        room = led(5, ["a", "b", "c"], by=2)
        self.assertIs(room.stand(0, [3, 4]), True)
        room.write(0, "x")
        self.assertIs(room.hand(0, 2, 0), True)
        self.assertIs(room.hand(0, 3, 1), True)
        self.assertEqual([len(room.row_of(k)) for k in range(5)], [1, 0, 3, 1, 0])
        self.assertEqual(room.settle(0), 0)
        self.assertIs(room.hand(0, 2, 1), True)
        self.assertEqual(room.settle(0), 1)

    def test_itself_it_counts_with_its_whole_row(self):
        room = led(1)
        self.assertEqual(room.settle(0), 0)
        for n in range(1, 4):
            room.write(0, "a")
            self.assertEqual(room.settle(0), n)
        self.assertEqual(room.settled_of(0), [(1, "a")] * 3)

    def test_an_entry_of_an_earlier_term_is_not_settled_by_that_alone(self):
        room = led(3, ["a"])
        hand_all(room, 0, [1, 2])
        self.assertIs(room.stand(0, [1, 2]), True)
        hand_all(room, 0, [1, 2])
        self.assertEqual(room.settle(0), 0)
        room.write(0, "b")
        self.assertEqual(room.settle(0), 0)
        hand_all(room, 0, [1])
        self.assertEqual(room.settle(0), 2)
        self.assertEqual(room.settled_of(0), [(1, "a"), (2, "b")])

    def test_one_alone_settles_no_entry_of_an_earlier_term_by_itself(self):
        room = led(1, ["a"])
        self.assertIs(room.stand(0, []), True)
        self.assertEqual(room.settle(0), 0)
        room.write(0, "b")
        self.assertEqual(room.settle(0), 2)

    def test_what_it_knows_does_not_fall(self):
        room = led(3, ["a", "b"])
        hand_all(room, 0, [1, 2])
        self.assertEqual(room.settle(0), 2)
        self.assertIs(room.stand(0, [1]), True)
        self.assertEqual(room.settle(0), 2)
        room.write(0, "c")
        self.assertEqual(room.settle(0), 2)

    def test_what_was_told_by_another_one_counts_as_known(self):
        room = led(3, ["a", "b"])
        hand_all(room, 0, [1, 2])
        room.settle(0)
        hand_all(room, 0, [1])
        self.assertIs(room.stand(1, [2]), True)
        self.assertEqual(room.settle(1), 2)

    def test_nothing_else_changes(self):
        room = led(3, ["a"])
        hand_all(room, 0, [1, 2])
        before = seen(room, 3)
        self.assertEqual(room.settle(0), 1)
        self.assertEqual(seen(room, 3), [(1, [(1, "a")], True, [(1, "a")])] + before[1:])


class Rest(unittest.TestCase):
    """Point 15."""

    def test_it_does_not_lead_and_knows_nothing_settled_but_keeps_term_and_row(self):
        room = led(3, ["a", "b"])
        hand_all(room, 0, [1, 2])
        room.settle(0)
        hand_all(room, 0, [1])
        before = seen(room, 3)
        self.assertIsNone(room.rest(0))
        self.assertEqual(
            seen(room, 3), [(1, [(1, "a"), (1, "b")], False, [])] + before[1:]
        )
        self.assertIsNone(room.rest(1))
        self.assertEqual(seen(room, 3)[1], (1, [(1, "a"), (1, "b")], False, []))

    def test_one_that_has_done_nothing_yet(self):
        room = Room(2)
        self.assertIsNone(room.rest(1))
        self.assertEqual(seen(room, 2), [(0, [], False, [])] * 2)

    def test_again_and_again(self):
        room = led(3, ["a"])
        room.rest(0)
        before = seen(room, 3)
        room.rest(0)
        self.assertEqual(seen(room, 3), before)

    def test_a_voice_is_not_given_again_in_the_kept_term(self):
        room = Room(3)
        self.assertIs(room.stand(0, [2]), True)
        room.rest(2)
        self.assertIs(room.stand(1, [2]), False)

    def test_it_is_told_again_what_is_settled(self):
        room = led(3, ["a"])
        hand_all(room, 0, [1])
        room.settle(0)
        hand_all(room, 0, [1])
        room.rest(1)
        self.assertEqual(room.settled_of(1), [])
        self.assertIs(room.hand(0, 1, 0), True)
        self.assertEqual(room.settled_of(1), [(1, "a")])

    def test_it_may_stand_and_settle_anew(self):
        room = led(3, ["a"])
        hand_all(room, 0, [1])
        room.settle(0)
        room.rest(0)
        self.assertIs(room.stand(0, [1]), True)
        self.assertEqual(room.settle(0), 0)
        self.assertEqual(room.write(0, "b"), 1)
        hand_all(room, 0, [1])
        self.assertEqual(room.settle(0), 2)


class TheListsAreTheAskersOwn(unittest.TestCase):
    """Points 1 and 2."""

    def settled_room(self):
        room = led(3, ["a", "b"])
        hand_all(room, 0, [1, 2])
        room.settle(0)
        hand_all(room, 0, [1, 2])
        return room

    def test_changing_a_list_that_was_given_changes_nothing_in_the_room(self):
        room = self.settled_room()
        before = seen(room, 3)
        for k in range(3):
            for given in (room.row_of(k), room.settled_of(k)):
                self.assertIs(type(given), list)
                given[0] = (9, "later")
                given.append((9, "later"))
                self.assertEqual(seen(room, 3), before)
                given.clear()
                self.assertEqual(seen(room, 3), before)

    def test_each_list_that_is_given_is_a_new_one(self):
        room = self.settled_room()
        for ask in (room.row_of, room.settled_of):
            given = [ask(k) for k in range(3) for _ in range(2)]
            for one, two in itertools.combinations(given, 2):
                self.assertIsNot(one, two)

    def test_nothing_done_later_changes_a_list_that_was_given(self):
        room = self.settled_room()
        given = [ask(k) for ask in (room.row_of, room.settled_of) for k in range(3)]
        kept = [list(one) for one in given]
        room.write(0, "c")
        hand_all(room, 0, [1])
        room.settle(0)
        hand_all(room, 0, [1, 2])
        self.assertIs(room.stand(2, [0, 1]), True)
        room.write(2, "d")
        hand_all(room, 2, [0, 1])
        room.settle(2)
        room.rest(0)
        self.assertEqual(given, kept)
        self.assertNotEqual(room.row_of(1), kept[1])

    def test_the_rows_of_two_keepers_stay_apart(self):
        room = led(2, ["a"])
        hand_all(room, 0, [1])
        room.write(0, "b")
        self.assertEqual(room.row_of(1), [(1, "a")])

    def test_the_list_of_those_asked_is_neither_changed_nor_kept(self):
        others = [2, 1, 1, 0]
        room = Room(3)
        self.assertIs(room.stand(0, others), True)
        self.assertEqual(others, [2, 1, 1, 0])
        others.clear()
        self.assertIs(room.leading(0), True)
        room.write(0, "a")
        self.assertIs(room.hand(0, 1, 1), True)


if __name__ == "__main__":
    unittest.main()

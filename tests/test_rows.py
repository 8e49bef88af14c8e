"""Points 3, 4, 5 and 6 of DOC.md, with points 1 and 2 as far as they bear on rows."""

import itertools
import unittest

from logreplica import rows
from logreplica.errors import NoKeeper, NoRoom, NotLeading, OutOfPlace, RoomError
from logreplica.rows import agrees, as_new, filled, last_term, settled_by

HUGE = 10 ** 29 + 7  # thirty figures
WIDE = "".join(chr(n) for n in range(32, 127) if chr(n) != "%") + "x" * 35  # 129 signs


def row_of(terms, mark="w"):
    """A row with these terms, its words told apart by their place and a mark."""
    return [(term, f"{mark}{at}") for at, term in enumerate(terms)]


def all_terms(longest, terms=(1, 2, 3)):
    """Every sequence of these terms up to a length."""
    for length in range(longest + 1):
        yield from itertools.product(terms, repeat=length)


class Interface(unittest.TestCase):
    def test_each_function_is_defined_in_rows(self):
        for name in ("last_term", "as_new", "agrees", "filled", "settled_by"):
            with self.subTest(name=name):
                self.assertEqual(getattr(rows, name).__module__, "logreplica.rows")

    def test_the_arguments_have_the_names_told(self):
        row = [(1, "a")]
        self.assertEqual(last_term(row=row), 1)
        self.assertIs(as_new(row=row, other=[]), True)
        self.assertIs(agrees(row=row, at=1, term=1), True)
        self.assertEqual(filled(row=row, at=1, some=[(2, "b")]), [(1, "a"), (2, "b")])
        self.assertEqual(settled_by(row=row, term=1, held=[1]), 1)


class LastTerm(unittest.TestCase):
    """Point 3, first sentence."""

    def test_of_an_empty_row_it_is_0(self):
        self.assertEqual(last_term([]), 0)

    def test_it_is_the_last_entrys(self):
        self.assertEqual(last_term([(7, "only")]), 7)
        self.assertEqual(last_term([(1, "a"), (3, "b")]), 3)

    def test_a_greater_term_further_ahead_does_not_count(self):
        self.assertEqual(last_term([(9, "a"), (2, "b")]), 2)

    def test_a_term_of_thirty_figures(self):
        self.assertEqual(last_term([(1, ""), (HUGE, WIDE)]), HUGE)


class AsNew(unittest.TestCase):
    """Point 3, second sentence."""

    def test_a_greater_last_term_decides_whatever_the_lengths(self):
        self.assertIs(as_new([(2, "a")], row_of([1, 1, 1])), True)
        self.assertIs(as_new(row_of([1, 1, 1]), [(2, "a")]), False)
        self.assertIs(as_new(row_of([1, 2]), row_of([1, 1])), True)
        self.assertIs(as_new(row_of([1, 1]), row_of([1, 2])), False)

    def test_of_equal_last_terms_a_shorter_row_is_not_as_new(self):
        self.assertIs(as_new(row_of([2]), row_of([1, 2])), False)

    def test_of_equal_last_terms_an_equally_long_row_is_as_new(self):
        self.assertIs(as_new(row_of([1, 2], "a"), row_of([2, 2], "b")), True)
        self.assertIs(as_new(row_of([2, 2], "b"), row_of([1, 2], "a")), True)

    def test_of_equal_last_terms_a_longer_row_is_as_new(self):
        self.assertIs(as_new(row_of([1, 1, 2]), row_of([2, 2])), True)

    def test_empty_rows(self):
        self.assertIs(as_new([], []), True)
        self.assertIs(as_new([], [(1, "")]), False)
        self.assertIs(as_new([(1, "")], []), True)

    def test_the_words_do_not_count(self):
        self.assertIs(as_new([(1, "a")], [(1, "zzz")]), True)
        self.assertIs(as_new([(1, "zzz")], [(1, "a")]), True)

    def test_only_the_last_terms_count_not_the_greatest(self):
        self.assertIs(as_new([(9, ""), (1, "")], [(2, "")]), False)

    def test_a_row_is_as_new_as_itself(self):
        row = row_of([1, 2])
        self.assertIs(as_new(row, row), True)

    def test_terms_of_thirty_figures(self):
        self.assertIs(as_new([(HUGE + 1, "")], row_of([HUGE, HUGE])), True)
        self.assertIs(as_new([(HUGE, "")], [(HUGE + 1, "")]), False)

    def test_long_rows(self):
        self.assertIs(as_new(row_of([5] * 700), row_of([5] * 699)), True)
        self.assertIs(as_new(row_of([5] * 699), row_of([5] * 700)), False)

    def test_as_the_words_say_for_all_short_rows(self):
        for one, two in itertools.product(list(all_terms(3)), repeat=2):
            ends = (one[-1] if one else 0, two[-1] if two else 0)
            want = ends[0] > ends[1] or (ends[0] == ends[1] and len(one) >= len(two))
            self.assertIs(as_new(row_of(one), row_of(two)), want, (one, two))


class Agrees(unittest.TestCase):
    """Point 4."""

    def test_the_place_0_agrees_with_any_term(self):
        for row in ([], [(1, "a")], row_of([2, 2])):
            for term in (0, 1, 2, 3, HUGE, -1):
                with self.subTest(row=row, term=term):
                    self.assertIs(agrees(row, 0, term), True)

    def test_the_entry_ahead_of_the_place_counts(self):
        row = row_of([1, 2, 3])
        for at, term in ((1, 1), (2, 2), (3, 3)):
            for asked in (0, 1, 2, 3, 4):
                with self.subTest(at=at, asked=asked):
                    self.assertIs(agrees(row, at, asked), asked == term)

    def test_the_place_that_is_the_length(self):
        self.assertIs(agrees([(4, "a")], 1, 4), True)
        self.assertIs(agrees([(4, "a")], 1, 5), False)

    def test_one_above_the_length(self):
        self.assertIs(agrees([(4, "a")], 2, 4), False)
        self.assertIs(agrees([], 1, 0), False)
        self.assertIs(agrees([], 1, 1), False)

    def test_far_above_the_length(self):
        for at in (100, HUGE):
            self.assertIs(agrees(row_of([4, 4]), at, 4), False)

    def test_below_0_no_entry_stands_ahead_and_no_error_is_raised(self):
        for at in (-1, -2, -3, -4, -HUGE):
            for term in (0, 1, 2, 3):
                with self.subTest(at=at, term=term):
                    self.assertIs(agrees(row_of([1, 2, 3]), at, term), False)
        self.assertIs(agrees([], -1, 0), False)

    def test_terms_of_thirty_figures(self):
        self.assertIs(agrees([(HUGE, "")], 1, HUGE), True)
        self.assertIs(agrees([(HUGE, "")], 1, HUGE + 1), False)

    def test_a_long_row(self):
        row = row_of(range(1, 701))
        for at in (1, 350, 700):
            self.assertIs(agrees(row, at, at), True)
            self.assertIs(agrees(row, at, at + 1), False)

    def test_as_the_words_say_for_all_short_rows(self):
        for terms in all_terms(3):
            for at, term in itertools.product(range(6), range(5)):
                want = at == 0 or (len(terms) >= at and terms[at - 1] == term)
                self.assertIs(agrees(row_of(terms), at, term), want, (terms, at, term))


def filled_by_the_words(row, at, some):
    """Point 5, gone along entry by entry."""
    out = list(row[:at])
    rest = list(row[at:])
    given = list(some)
    while given and rest and rest[0][0] == given[0][0]:
        out.append(rest.pop(0))
        given.pop(0)
    return out + (given if given else rest)


class Filled(unittest.TestCase):
    """Point 5."""

    def test_an_empty_row_takes_all(self):
        self.assertEqual(filled([], 0, [(1, "a"), (2, "b")]), [(1, "a"), (2, "b")])

    def test_at_the_end_all_come_behind(self):
        self.assertEqual(
            filled([(1, "a")], 1, [(1, "b"), (2, "c")]), [(1, "a"), (1, "b"), (2, "c")]
        )

    def test_the_rows_own_entries_stay_where_the_terms_are_the_same(self):
        self.assertEqual(
            filled([(1, "own"), (2, "own")], 0, [(1, "new"), (2, "new"), (3, "new")]),
            [(1, "own"), (2, "own"), (3, "new")],
        )

    def test_the_row_keeps_what_it_has_behind_entries_that_are_all_the_same(self):
        row = [(1, "a"), (1, "b"), (2, "c"), (3, "d")]
        self.assertEqual(filled(row, 0, [(1, "a"), (1, "b")]), row)
        self.assertEqual(filled(row, 1, [(1, "b"), (2, "c")]), row)
        self.assertEqual(filled(row, 0, row), row)

    def test_no_entries_leave_the_row_as_it_is(self):
        row = row_of([1, 2, 3])
        for at in range(4):
            with self.subTest(at=at):
                self.assertEqual(filled(row, at, []), row)
        self.assertEqual(filled([], 0, []), [])

    def test_the_first_unlike_entry_at_the_beginning(self):
        self.assertEqual(
            filled([(1, "a"), (1, "b"), (1, "c")], 0, [(2, "x"), (1, "y")]),
            [(2, "x"), (1, "y")],
        )

    def test_the_first_unlike_entry_in_the_middle(self):
        row = [(1, "a"), (1, "b"), (1, "c"), (1, "d")]
        self.assertEqual(
            filled(row, 0, [(1, "x"), (2, "y"), (2, "z")]), [(1, "a"), (2, "y"), (2, "z")]
        )
        self.assertEqual(
            filled(row, 1, [(1, "x"), (2, "y"), (1, "z")]),
            [(1, "a"), (1, "b"), (2, "y"), (1, "z")],
        )

    def test_the_first_unlike_entry_at_the_end(self):
        row = [(1, "a"), (1, "b"), (1, "c")]
        self.assertEqual(
            filled(row, 0, [(1, "x"), (1, "y"), (2, "z")]), [(1, "a"), (1, "b"), (2, "z")]
        )

    def test_an_unlike_entry_takes_away_all_that_stands_behind(self):
        row = row_of([1, 1, 1, 1, 1])
        self.assertEqual(filled(row, 1, [(2, "x")]), [row[0], (2, "x")])

    def test_a_smaller_term_is_another_one_too(self):
        self.assertEqual(filled([(3, "a"), (3, "b")], 0, [(2, "x")]), [(2, "x")])

    def test_what_stands_ahead_of_the_place_is_not_looked_at(self):
        self.assertEqual(filled([(9, "a"), (1, "b")], 1, [(2, "x")]), [(9, "a"), (2, "x")])

    def test_the_place_that_is_the_length_is_good(self):
        for length in range(4):
            row = row_of([1] * length)
            self.assertEqual(filled(row, length, [(1, "x")]), row + [(1, "x")])

    def test_as_the_words_say_for_all_short_rows(self):
        for terms, given in itertools.product(list(all_terms(4, (1, 2))), list(all_terms(3, (1, 2)))):
            row, some = row_of(terms, "own"), row_of(given, "new")
            for at in range(len(row) + 1):
                want = filled_by_the_words(row, at, some)
                self.assertEqual(filled(row, at, some), want, (terms, at, given))

    def test_long_rows_great_terms_and_wide_words(self):
        self.assertEqual(len(WIDE), 129)
        row = [(HUGE + k, WIDE) for k in range(700)]
        some = row[300:600] + [(HUGE, ""), (HUGE * 2, WIDE)]
        self.assertEqual(filled(row, 300, some), row[:600] + some[300:])
        self.assertEqual(filled(row, 300, row[300:600]), row)


class OutOfPlaceIsRaised(unittest.TestCase):
    """Point 5, the refusal."""

    def refused(self, row, at, some):
        kept = (list(row), list(some))
        with self.assertRaises(OutOfPlace) as caught:
            filled(row, at, some)
        self.assertEqual((row, some), kept)
        return caught.exception

    def test_below_0(self):
        for at in (-1, -2, -3, -HUGE):
            for row in ([], row_of([1]), row_of([1, 2])):
                with self.subTest(at=at, row=row):
                    self.refused(row, at, [(1, "x")])

    def test_above_the_length(self):
        for row in ([], row_of([1]), row_of([1, 2])):
            for at in (len(row) + 1, len(row) + 2, 1000, HUGE):
                with self.subTest(at=at, row=row):
                    self.refused(row, at, [(1, "x")])

    def test_without_entries_too(self):
        for at in (-1, 3):
            self.refused(row_of([1, 2]), at, [])
        for at in (-1, 1):
            self.refused([], at, [])

    def test_a_place_too_long_for_python_to_write_out(self):
        for at in (10 ** 5000, -(10 ** 5000)):
            self.refused(row_of([1]), at, [(1, "x")])

    def test_it_is_a_room_error_and_a_value_error_and_none_of_the_others(self):
        error = self.refused([], 1, [])
        self.assertIsInstance(error, RoomError)
        self.assertIsInstance(error, ValueError)
        for other in (NoRoom, NoKeeper, NotLeading):
            self.assertNotIsInstance(error, other)


def settled_by_the_words(row, term, held):
    """Point 6, each n tried."""
    good = [0]
    for n in range(1, len(row) + 1):
        if 2 * sum(h >= n for h in held) > len(held) and row[n - 1][0] == term:
            good.append(n)
    return max(good)


class SettledBy(unittest.TestCase):
    """Point 6."""

    def test_more_than_half_of_an_odd_count(self):
        row = row_of([1, 1, 1])
        self.assertEqual(settled_by(row, 1, [3, 2, 0]), 2)
        self.assertEqual(settled_by(row, 1, [3, 0, 0]), 0)
        self.assertEqual(settled_by(row, 1, [3, 3, 2, 1, 0]), 2)

    def test_half_of_an_even_count_is_not_enough(self):
        row = row_of([1, 1, 1])
        self.assertEqual(settled_by(row, 1, [3, 0]), 0)
        self.assertEqual(settled_by(row, 1, [3, 3, 1, 1]), 1)
        self.assertEqual(settled_by(row, 1, [3, 3, 2, 1]), 2)

    def test_one_number_held(self):
        self.assertEqual(settled_by(row_of([1, 1, 1]), 1, [2]), 2)
        self.assertEqual(settled_by(row_of([1, 1, 1]), 1, [0]), 0)

    def test_the_order_of_the_numbers_held_does_not_count(self):
        row = row_of([1, 1, 1, 1])
        for held in itertools.permutations([4, 3, 3, 1, 0]):
            self.assertEqual(settled_by(row, 1, list(held)), 3)

    def test_numbers_held_above_the_rows_length(self):
        self.assertEqual(settled_by(row_of([1, 1]), 1, [5, 3, 0]), 2)
        self.assertEqual(settled_by(row_of([1, 1]), 1, [HUGE, HUGE, HUGE]), 2)
        self.assertEqual(settled_by([], 1, [5, 5, 5]), 0)

    def test_another_term_at_the_greatest_number_but_one_of_the_term_ahead(self):
        self.assertEqual(settled_by(row_of([1, 2, 1]), 2, [3, 3, 3]), 2)
        self.assertEqual(settled_by(row_of([2, 3, 3, 3]), 2, [4, 4, 0]), 1)

    def test_an_entry_of_another_term_further_ahead_is_settled_with_it(self):
        self.assertEqual(settled_by(row_of([1, 1, 2]), 2, [3, 3, 0]), 3)

    def test_an_entry_of_the_term_that_too_few_hold(self):
        self.assertEqual(settled_by(row_of([1, 1, 2]), 2, [3, 2, 2]), 0)

    def test_no_entry_of_the_term(self):
        self.assertEqual(settled_by(row_of([1, 1, 3]), 2, [3, 3, 3]), 0)
        self.assertEqual(settled_by(row_of([1, 1]), 0, [2, 2]), 0)

    def test_none_held(self):
        self.assertEqual(settled_by(row_of([1, 1]), 1, [0, 0, 0]), 0)

    def test_an_empty_row(self):
        self.assertEqual(settled_by([], 0, [0]), 0)
        self.assertEqual(settled_by([], 1, [0, 0]), 0)

    def test_beyond_the_limits_no_error_is_raised(self):
        self.assertEqual(settled_by(row_of([1]), 1, []), 0)
        self.assertEqual(settled_by(row_of([1]), 1, [-1, -1, 1]), 0)

    def test_a_term_of_thirty_figures(self):
        row = [(1, ""), (HUGE, WIDE), (HUGE + 1, "")]
        self.assertEqual(settled_by(row, HUGE, [HUGE, 3, 0]), 2)

    def test_a_long_row(self):
        row = row_of([7] * 400 + [8] * 300)
        self.assertEqual(settled_by(row, 8, [700, 650, 10]), 650)
        self.assertEqual(settled_by(row, 7, [700, 650, 10]), 400)

    def test_as_the_words_say_for_all_short_rows(self):
        for terms in all_terms(3):
            for count in range(1, 5):
                for held in itertools.product(range(5), repeat=count):
                    row = row_of(terms)
                    want = settled_by_the_words(row, 2, held)
                    self.assertEqual(settled_by(row, 2, list(held)), want, (terms, held))


class NothingHandedInIsChanged(unittest.TestCase):
    """Points 1 and 2."""

    def test_rows_and_lists_are_as_they_were(self):
        for terms, given in itertools.product(list(all_terms(3, (1, 2))), repeat=2):
            row, some, held = row_of(terms), row_of(given, "x"), [2, 0, 3, 1]
            kept = (list(row), list(some), list(held))
            last_term(row)
            as_new(row, some)
            for at in range(len(row) + 2):
                agrees(row, at, 1)
            for at in range(len(row) + 1):
                filled(row, at, some)
            settled_by(row, 1, held)
            self.assertEqual((row, some, held), kept)

    def test_a_list_that_is_given_is_another_one_and_the_askers_own(self):
        for terms, given in itertools.product(list(all_terms(3, (1, 2))), repeat=2):
            for at in range(len(terms) + 1):
                row, some = row_of(terms), row_of(given, "x")
                kept = (list(row), list(some))
                out = filled(row, at, some)
                self.assertIs(type(out), list)
                self.assertIsNot(out, row)
                self.assertIsNot(out, some)
                out.append((9, "later"))
                out[0] = (9, "later")
                self.assertEqual((row, some), kept)

    def test_what_is_done_later_with_what_was_handed_in_changes_no_answer(self):
        for at, some in ((0, []), (2, []), (2, [(3, "x")]), (0, [(1, "x")]), (0, [(3, "x")])):
            row = row_of([1, 2])
            out = filled(row, at, some)
            kept = list(out)
            row.clear()
            some.clear()
            self.assertEqual(out, kept)

    def test_a_row_filled_from_itself(self):
        row = row_of([1, 2])
        out = filled(row, 0, row)
        self.assertEqual(out, row)
        self.assertIsNot(out, row)
        self.assertEqual(filled(row, 2, row), row + row)


if __name__ == "__main__":
    unittest.main()

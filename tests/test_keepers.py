"""Points 7, 8 and 9 of DOC.md, with points 1 and 2 as far as they bear on a keeper."""

import itertools
import unittest

from logreplica import keepers
from logreplica.keepers import Keeper

FIGURES_25 = 10 ** 24 + 3
ROW = [(1, "a"), (3, "b")]
AS_NEW = ([(3, "x"), (3, "y")], [(1, ""), (1, ""), (3, "")], [(4, "")])
NOT_AS_NEW = ([], [(3, "x")], [(2, "")] * 5)


def values(keeper):
    return keeper.term, keeper.row, keeper.leads, keeper.settled


def leading(row, term):
    """A keeper that leads in this term; only a room makes one lead, so it is set by hand."""
    keeper = Keeper(row)
    keeper.hear(term)
    keeper.leads = True
    keeper.settled = len(row)
    return keeper


class Interface(unittest.TestCase):
    def test_the_class_and_its_methods_are_defined_in_keepers(self):
        self.assertEqual(Keeper.__module__, "logreplica.keepers")
        self.assertIs(keepers.Keeper, Keeper)
        for name in ("__init__", "hear", "asked"):
            with self.subTest(name=name):
                self.assertIn(name, vars(Keeper))

    def test_the_arguments_have_the_names_told(self):
        keeper = Keeper(row=[])
        self.assertIsNone(keeper.hear(term=1))
        self.assertIs(keeper.asked(term=2, row=[]), True)


class Made(unittest.TestCase):
    """Point 7."""

    def test_it_begins_with_the_row_and_all_else_at_first(self):
        for row in ([], ROW, [(FIGURES_25, "")] * 300):
            keeper = Keeper(row)
            self.assertEqual(values(keeper), (0, row, False, 0))
            self.assertIs(type(keeper.row), list)
            self.assertIs(keeper.leads, False)

    def test_the_row_handed_in_is_not_kept(self):
        row = list(ROW)
        keeper = Keeper(row)
        self.assertIsNot(keeper.row, row)
        row.append((4, "later"))
        row[0] = (9, "later")
        self.assertEqual(keeper.row, ROW)

    def test_two_keepers_of_one_row_are_apart(self):
        row = list(ROW)
        one, two = Keeper(row), Keeper(row)
        self.assertIsNot(one.row, two.row)
        one.hear(5)
        self.assertEqual(values(two), (0, ROW, False, 0))


class Hear(unittest.TestCase):
    """Point 8."""

    def test_a_greater_term_is_taken(self):
        for term in (1, 2, 7, FIGURES_25):
            keeper = Keeper(ROW)
            self.assertIsNone(keeper.hear(term))
            self.assertEqual(values(keeper), (term, ROW, False, 0))

    def test_one_that_leads_does_not_lead_any_more(self):
        for term in (4, 5, FIGURES_25):
            keeper = leading(ROW, 3)
            self.assertIsNone(keeper.hear(term))
            self.assertEqual(values(keeper), (term, ROW, False, 2))

    def test_the_same_term_and_lesser_ones_change_nothing(self):
        for term in (3, 2, 1, 0, -1, -FIGURES_25):
            keeper = leading(ROW, 3)
            self.assertIsNone(keeper.hear(term))
            self.assertEqual(values(keeper), (3, ROW, True, 2))

    def test_at_first_nought_and_below_change_nothing(self):
        for term in (0, -1, -FIGURES_25):
            keeper = Keeper(ROW)
            self.assertIsNone(keeper.hear(term))
            self.assertEqual(values(keeper), (0, ROW, False, 0))

    def test_terms_of_twenty_five_figures(self):
        keeper = leading(ROW, FIGURES_25)
        keeper.hear(FIGURES_25 - 1)
        keeper.hear(FIGURES_25)
        self.assertEqual(values(keeper), (FIGURES_25, ROW, True, 2))
        keeper.hear(FIGURES_25 + 1)
        self.assertEqual(values(keeper), (FIGURES_25 + 1, ROW, False, 2))

    def test_one_term_behind_another(self):
        keeper = Keeper([])
        terms = []
        for term in (2, 1, 2, 5, 0, 4, 6):
            keeper.hear(term)
            terms.append(keeper.term)
        self.assertEqual(terms, [2, 2, 2, 5, 5, 5, 6])


class Asked(unittest.TestCase):
    """Point 9."""

    def test_a_term_that_is_not_greater_gets_no_voice_and_changes_nothing(self):
        for term, row in itertools.product((3, 2, 0, -1, -FIGURES_25), AS_NEW + NOT_AS_NEW):
            keeper = leading(ROW, 3)
            self.assertIs(keeper.asked(term, row), False)
            self.assertEqual(values(keeper), (3, ROW, True, 2))

    def test_at_first_nought_and_below_get_no_voice(self):
        for term in (0, -1):
            keeper = Keeper([])
            self.assertIs(keeper.asked(term, [(1, "a")]), False)
            self.assertEqual(values(keeper), (0, [], False, 0))

    def test_a_greater_term_and_a_row_as_new_get_the_voice(self):
        for term, row in itertools.product((4, 9, FIGURES_25), AS_NEW + (ROW,)):
            keeper = leading(ROW, 3)
            self.assertIs(keeper.asked(term, row), True)
            self.assertEqual(values(keeper), (term, ROW, False, 2))

    def test_a_greater_term_is_taken_where_the_row_gets_no_voice_too(self):
        for term, row in itertools.product((4, 9, FIGURES_25), NOT_AS_NEW):
            keeper = leading(ROW, 3)
            self.assertIs(keeper.asked(term, row), False)
            self.assertEqual(values(keeper), (term, ROW, False, 2))

    def test_empty_rows(self):
        self.assertIs(Keeper([]).asked(1, []), True)
        self.assertIs(Keeper([(1, "")]).asked(1, []), False)
        self.assertIs(Keeper([]).asked(1, [(1, "")]), True)

    def test_one_voice_at_most_in_a_term(self):
        keeper = Keeper(ROW)
        self.assertIs(keeper.asked(4, ROW), True)
        self.assertIs(keeper.asked(4, ROW), False)
        self.assertIs(keeper.asked(4, [(4, "")]), False)
        self.assertIs(keeper.asked(5, ROW), True)

    def test_none_in_a_term_that_a_row_not_as_new_has_brought(self):
        keeper = Keeper(ROW)
        self.assertIs(keeper.asked(4, []), False)
        self.assertIs(keeper.asked(4, ROW), False)
        self.assertIs(keeper.asked(5, ROW), True)

    def test_none_in_a_term_that_it_has_heard_of(self):
        keeper = Keeper(ROW)
        keeper.hear(4)
        self.assertIs(keeper.asked(4, ROW), False)
        self.assertIs(keeper.asked(5, ROW), True)

    def test_the_row_handed_in_is_neither_changed_nor_kept(self):
        for term, row in itertools.product((3, 4), AS_NEW + NOT_AS_NEW):
            keeper = leading(ROW, 3)
            given = list(row)
            keeper.asked(term, given)
            self.assertEqual(given, row)
            given.append((9, "later"))
            self.assertEqual(keeper.row, ROW)

    def test_it_may_be_asked_for_its_own_row(self):
        keeper = Keeper(ROW)
        self.assertIs(keeper.asked(1, keeper.row), True)
        self.assertEqual(values(keeper), (1, ROW, False, 0))


if __name__ == "__main__":
    unittest.main()

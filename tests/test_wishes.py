"""Points 1 and 2: wishes, who suits whom, and whom a guest would rather have."""

from unittest import TestCase

from bedtwos.wishes import need_wishes, rather, suits
from tests import reckoning
from tests.tables import TABLES

# Guests 0 and 1, 0 and 2, 2 and 3 suit each other; 0's wish for 3 and 1's wish for 2 are not returned.
FOUR = [[3, 2, 1], [2, 0], [3, 0], [2]]


class NeedWishesTest(TestCase):
    def test_all_tables_are_wishes(self):
        for table in TABLES:
            self.assertIsNone(need_wishes(table))

    def test_one_guest_six_guests_and_empty_lists(self):
        for table in ([[]], [[], []], [[], [], [], [], [], []], [[5], [], [], [], [], [4, 3, 2, 1, 0]]):
            self.assertIsNone(need_wishes(table))

    def test_one_list_may_be_there_for_two_guests(self):
        row = [2]
        self.assertIsNone(need_wishes([row, row, []]))


class SuitsTest(TestCase):
    def test_by_hand(self):
        pairs = [(one, other) for one in range(4) for other in range(4) if suits(FOUR, one, other)]
        self.assertEqual([(0, 1), (0, 2), (1, 0), (2, 0), (2, 3), (3, 2)], pairs)

    def test_a_wish_that_is_not_returned(self):
        self.assertIs(False, suits([[1], []], 0, 1))
        self.assertIs(False, suits([[1], []], 1, 0))
        self.assertIs(True, suits([[1], [0]], 1, 0))

    def test_never_with_itself(self):
        self.assertIs(False, suits([[]], 0, 0))
        for guest in range(4):
            self.assertIs(False, suits(FOUR, guest, guest))

    def test_against_the_reckoning(self):
        for table in TABLES:
            for one in range(len(table)):
                for other in range(len(table)):
                    self.assertIs(reckoning.suit(table, one, other), suits(table, one, other), table)


class RatherTest(TestCase):
    def test_of_two_who_suit_it_the_one_ahead_in_its_list(self):
        self.assertIs(True, rather(FOUR, 0, 2, 1))
        self.assertIs(False, rather(FOUR, 0, 1, 2))
        self.assertIs(True, rather(FOUR, 2, 3, 0))

    def test_one_who_suits_it_than_be_alone(self):
        self.assertIs(True, rather(FOUR, 0, 1, None))
        self.assertIs(False, rather(FOUR, 0, None, 1))

    def test_one_who_does_not_suit_it_never(self):
        self.assertIs(False, rather(FOUR, 0, 3, 1))
        self.assertIs(False, rather(FOUR, 0, 3, None))
        self.assertIs(False, rather(FOUR, 1, 2, 0))
        self.assertIs(False, rather(FOUR, 1, 3, 2))

    def test_the_other_one_does_not_suit_it(self):
        self.assertIs(True, rather(FOUR, 0, 1, 3))
        self.assertIs(True, rather(FOUR, 1, 0, 2))
        self.assertIs(False, rather(FOUR, 0, None, 3))

    def test_the_same_and_itself(self):
        self.assertIs(False, rather(FOUR, 0, 1, 1))
        self.assertIs(False, rather(FOUR, 0, 3, 3))
        self.assertIs(False, rather(FOUR, 0, None, None))
        self.assertIs(False, rather(FOUR, 0, 0, 3))
        self.assertIs(False, rather(FOUR, 0, 0, None))
        self.assertIs(True, rather(FOUR, 0, 1, 0))
        self.assertIs(False, rather([[]], 0, 0, None))
        self.assertIs(False, rather([[]], 0, None, 0))

    def test_against_the_reckoning(self):
        for table in TABLES[::2]:
            choices = [None, *range(len(table))]
            for guest in range(len(table)):
                for one in choices:
                    for other in choices:
                        told = reckoning.would_rather(table, guest, one, other)
                        self.assertIs(told, rather(table, guest, one, other), (table, guest, one, other))

"""Points 6, 7 and 8: parties, when they hold, and how they are put in twos."""

from unittest import TestCase

from bedtwos.parties import holds, paired, rings
from bedtwos.twos import all_calm, calm
from tests import reckoning
from tests.tables import RING_OF_FIVE, RING_OF_SIX, RING_OF_THREE, SQUARE_AND_ONE, TABLES, TWO_RINGS

SQUARE = [[1, 3], [2, 0], [3, 1], [0, 2]]

NAMED = [RING_OF_THREE, RING_OF_FIVE, RING_OF_SIX, TWO_RINGS, SQUARE, SQUARE_AND_ONE]

# All of up to four guests; of more guests some, as there are 120 and 720 lists of next ones for each of them.
HELD_AGAINST = [table for table in TABLES if len(table) <= 4] + [table for table in TABLES if len(table) > 4][::15]

EVERY_AFTER = [after for many in range(1, 7) for after in reckoning.every_after(many)]


class RingsTest(TestCase):
    def test_parties_of_one(self):
        self.assertEqual([[0]], rings([0]))
        self.assertEqual([[0], [1], [2]], rings([0, 1, 2]))
        self.assertEqual([[0], [1], [2], [3], [4], [5]], rings([0, 1, 2, 3, 4, 5]))

    def test_parties_of_two(self):
        self.assertEqual([[0, 1]], rings([1, 0]))
        self.assertEqual([[0, 5], [1, 3], [2, 4]], rings([5, 3, 4, 1, 2, 0]))

    def test_parties_of_three_to_six(self):
        self.assertEqual([[0, 2, 1]], rings([2, 0, 1]))
        self.assertEqual([[0, 2, 1, 3]], rings([2, 3, 1, 0]))
        self.assertEqual([[0, 3, 1, 4, 2]], rings([3, 4, 0, 1, 2]))
        self.assertEqual([[0, 4, 2, 5, 1, 3]], rings([4, 3, 5, 0, 2, 1]))

    def test_several_parties_by_their_least_guests(self):
        self.assertEqual([[0, 5], [1], [2, 4, 3]], rings([5, 1, 4, 2, 3, 0]))
        self.assertEqual([[0, 4, 2], [1, 5, 3]], rings([4, 5, 0, 1, 2, 3]))

    def test_going_round_the_other_way(self):
        self.assertEqual([[0, 1, 2]], rings([1, 2, 0]))
        self.assertEqual([[0, 2, 1]], rings([2, 0, 1]))
        self.assertEqual([[0, 5, 4, 3, 2, 1]], rings([5, 0, 1, 2, 3, 4]))

    def test_against_the_reckoning(self):
        for after in EVERY_AFTER:
            self.assertEqual(reckoning.rings_of(after), rings(after), after)


class HoldsTest(TestCase):
    def test_one_guest_and_empty_lists(self):
        self.assertIs(True, holds([[]], [0]))
        self.assertIs(True, holds([[]] * 6, [0, 1, 2, 3, 4, 5]))
        self.assertIs(False, holds([[]] * 6, [0, 1, 2, 3, 5, 4]))

    def test_a_party_of_one_whose_guest_suits_someone(self):
        self.assertIs(False, holds([[1], [0]], [0, 1]))
        self.assertIs(True, holds([[1], [0, 2], [1]], [1, 0, 2]))
        self.assertIs(False, holds([[1], [2, 0], [1]], [1, 0, 2]))
        self.assertIs(True, holds(SQUARE_AND_ONE, [1, 2, 3, 0, 4]))

    def test_a_party_of_two(self):
        self.assertIs(True, holds([[1], [0]], [1, 0]))
        self.assertIs(False, holds([[1], []], [1, 0]))
        self.assertIs(False, holds([[], [0]], [1, 0]))
        self.assertIs(False, holds([[], []], [1, 0]))

    def test_a_wish_that_is_not_returned_draws_nobody_away(self):
        self.assertIs(True, holds([[1], []], [0, 1]))
        self.assertIs(True, holds([[2, 1], [0], []], [1, 0, 2]))

    def test_parties_of_three_to_six(self):
        self.assertIs(True, holds(RING_OF_THREE, [1, 2, 0]))
        self.assertIs(True, holds(SQUARE, [1, 2, 3, 0]))
        self.assertIs(True, holds(RING_OF_FIVE, [1, 2, 3, 4, 0]))
        self.assertIs(True, holds(RING_OF_SIX, [1, 2, 3, 4, 5, 0]))
        self.assertIs(True, holds(TWO_RINGS, [1, 2, 0, 4, 5, 3]))

    def test_going_round_the_other_way(self):
        self.assertIs(False, holds(RING_OF_THREE, [2, 0, 1]))
        self.assertIs(False, holds(SQUARE, [3, 0, 1, 2]))
        self.assertIs(False, holds(RING_OF_FIVE, [4, 0, 1, 2, 3]))
        self.assertIs(False, holds(RING_OF_SIX, [5, 0, 1, 2, 3, 4]))
        self.assertIs(False, holds(TWO_RINGS, [1, 2, 0, 5, 3, 4]))

    def test_twos_of_a_ring_hold_as_well(self):
        self.assertIs(True, holds(SQUARE, [1, 0, 3, 2]))
        self.assertIs(True, holds(SQUARE, [3, 2, 1, 0]))
        self.assertIs(False, holds(RING_OF_THREE, [1, 0, 2]))

    def test_two_would_rather_have_each_other_than_the_ones_ahead_of_them(self):
        # 0 and 2 would rather have each other than 3 and 1, but not than 1 and 3.
        self.assertIs(False, holds([[1, 2, 3], [2, 0], [3, 0, 1], [0, 2]], [1, 2, 3, 0]))
        self.assertIs(True, holds([[1, 3, 2], [2, 0], [3, 0, 1], [0, 2]], [1, 2, 3, 0]))

    def test_each_condition_is_needed(self):
        # Else the tables would not have put it to the test: each one alone is what keeps some parties from holding.
        broken = set()
        for table in HELD_AGAINST:
            for after in reckoning.every_after(len(table)):
                wrong = [condition for condition in reckoning.CONDITIONS if not condition(table, after)]
                if len(wrong) == 1:
                    broken.add(wrong[0])
                    self.assertIs(False, holds(table, after), (table, after))
            if len(broken) == 3:
                return
        self.fail(f"only {broken} alone")

    def test_against_the_reckoning(self):
        for table in HELD_AGAINST + NAMED:
            for after in reckoning.every_after(len(table)):
                self.assertIs(reckoning.hold(table, after), holds(table, after), (table, after))


class PairedTest(TestCase):
    def test_parties_of_one(self):
        for ahead in (False, True):
            self.assertEqual([None], paired([0], ahead))
            self.assertEqual([None] * 6, paired([0, 1, 2, 3, 4, 5], ahead))

    def test_parties_of_two_are_the_same_both_ways(self):
        for ahead in (False, True):
            self.assertEqual([1, 0], paired([1, 0], ahead))
            self.assertEqual([2, None, 0, 5, None, 3], paired([2, 1, 0, 5, 4, 3], ahead))

    def test_a_party_of_four(self):
        self.assertEqual([1, 0, 3, 2], paired([1, 2, 3, 0], False))
        self.assertEqual([3, 2, 1, 0], paired([1, 2, 3, 0], True))
        self.assertEqual([2, 3, 0, 1], paired([2, 3, 1, 0], False))
        self.assertEqual([3, 2, 1, 0], paired([2, 3, 1, 0], True))

    def test_a_party_of_six(self):
        self.assertEqual([1, 0, 3, 2, 5, 4], paired([1, 2, 3, 4, 5, 0], False))
        self.assertEqual([5, 2, 1, 4, 3, 0], paired([1, 2, 3, 4, 5, 0], True))

    def test_going_round_the_other_way(self):
        self.assertEqual([3, 2, 1, 0], paired([3, 0, 1, 2], False))
        self.assertEqual([1, 0, 3, 2], paired([3, 0, 1, 2], True))
        self.assertEqual([5, 2, 1, 4, 3, 0], paired([5, 0, 1, 2, 3, 4], False))

    def test_parties_of_several_sizes(self):
        self.assertEqual([None, 3, 5, 1, None, 2], paired([0, 3, 5, 1, 4, 2], False))
        self.assertEqual([3, 4, 5, 0, 1, 2], paired([3, 4, 1, 0, 5, 2], False))
        self.assertEqual([3, 5, 4, 0, 2, 1], paired([3, 2, 4, 0, 5, 1], True))
        self.assertEqual([None, 5, 3, 2, None, 1], paired([0, 2, 3, 5, 4, 1], True))

    def test_against_the_reckoning(self):
        tried = 0
        for after in EVERY_AFTER:
            if not reckoning.has_odd_party(after):
                tried += 1
                self.assertEqual(reckoning.paired_of(after, False), paired(after, False), after)
                self.assertEqual(reckoning.paired_of(after, True), paired(after, True), after)
        # Of six guests 376 lists have only parties of one, two, four and six.
        self.assertEqual(1 + 2 + 4 + 16 + 56 + 376, tried)


class PartiesThatHoldTest(TestCase):
    def parties_that_hold(self, table):
        return [after for after in reckoning.every_after(len(table)) if holds(table, after)]

    def test_for_every_table_there_are_some(self):
        for table in TABLES + NAMED:
            self.assertNotEqual([], self.parties_that_hold(table), table)

    def test_no_calm_mates_where_there_is_a_party_of_three_or_of_five(self):
        sizes = set()
        for table in TABLES + NAMED:
            for after in self.parties_that_hold(table):
                if reckoning.has_odd_party(after):
                    self.assertEqual([], reckoning.calm_of(table), (table, after))
                    self.assertEqual([], all_calm(table), (table, after))
                    sizes.update(reckoning.sizes_of(after))
        self.assertLessEqual({3, 5}, sizes)

    def test_else_both_ways_lead_to_calm_mates(self):
        sizes = set()
        for table in TABLES + NAMED:
            for after in self.parties_that_hold(table):
                if not reckoning.has_odd_party(after):
                    for ahead in (False, True):
                        mates = paired(after, ahead)
                        self.assertIs(True, calm(table, mates), (table, after))
                        self.assertIn(mates, all_calm(table))
                    sizes.update(reckoning.sizes_of(after))
        self.assertEqual({1, 2, 4, 6}, sizes)

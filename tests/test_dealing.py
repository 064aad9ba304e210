"""Points 9 and 10: what is dealt, and who is left alone."""

from unittest import TestCase

from bedtwos.dealing import dealt
from tests import reckoning
from tests.tables import RING_OF_FIVE, RING_OF_SIX, RING_OF_THREE, SQUARE_AND_ONE, TABLES, TWO_RINGS

WITHOUT_CALM = [RING_OF_THREE, RING_OF_FIVE, TWO_RINGS, RING_OF_THREE + [[], [5], [4]], RING_OF_FIVE + [[]]]


class DealtTest(TestCase):
    def test_one_guest_and_empty_lists(self):
        self.assertEqual(("twos", [None]), dealt([[]]))
        self.assertEqual(("twos", [None] * 6), dealt([[]] * 6))

    def test_the_first_of_several_calm_mates(self):
        self.assertEqual(("twos", [1, 0, 3, 2, None]), dealt(SQUARE_AND_ONE))
        self.assertEqual(("twos", [1, 0, 3, 2, 5, 4]), dealt(RING_OF_SIX))
        # 0 would rather have 3, but by 5 the mates in which it has 1 come first.
        self.assertEqual(("twos", [1, 0, 3, 2]), dealt([[3, 1], [0, 2], [1, 3], [2, 0]]))

    def test_parties_where_only_one_kind_holds(self):
        self.assertEqual(("parties", [1, 2, 0]), dealt(RING_OF_THREE))
        self.assertEqual(("parties", [1, 2, 3, 4, 0]), dealt(RING_OF_FIVE))
        self.assertEqual(("parties", [1, 2, 0, 4, 5, 3]), dealt(TWO_RINGS))
        self.assertEqual(("parties", [1, 2, 0, 3, 5, 4]), dealt(RING_OF_THREE + [[], [5], [4]]))

    def test_against_the_reckoning(self):
        for table in TABLES + WITHOUT_CALM + [SQUARE_AND_ONE, RING_OF_SIX]:
            found = reckoning.calm_of(table)
            if found:
                self.assertEqual(("twos", found[0]), dealt(table), table)
                continue
            told, after = dealt(table)
            self.assertEqual("parties", told, table)
            self.assertIn(after, reckoning.every_after(len(table)))
            self.assertTrue(reckoning.hold(table, after), table)
            self.assertTrue(reckoning.has_odd_party(after), table)

    def test_the_tables_of_the_tests_have_both(self):
        told = [dealt(table)[0] for table in TABLES]
        self.assertGreater(told.count("parties"), 5)
        self.assertGreater(told.count("twos"), 5)
        self.assertEqual(len(TABLES), told.count("parties") + told.count("twos"))

    def test_all_calm_mates_leave_alone_whom_the_dealt_ones_do(self):
        several = 0
        for table in TABLES + [SQUARE_AND_ONE]:
            told, mates = dealt(table)
            if told == "twos":
                alone = [guest for guest, mate in enumerate(mates) if mate is None]
                found = reckoning.calm_of(table)
                for others in found:
                    self.assertEqual(alone, [guest for guest, mate in enumerate(others) if mate is None], table)
                several += len(found) > 1 and alone != []
        self.assertGreater(several, 1)

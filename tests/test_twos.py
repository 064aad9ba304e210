"""Points 3, 4, 5 and 10: mates, the restless, calm mates, their order, and who is left alone."""

from unittest import TestCase

from bedtwos.twos import all_calm, all_twos, calm, restless
from tests import reckoning
from tests.tables import RING_OF_THREE, SQUARE_AND_ONE, TABLES

ALL_OF_SIX = [[other for other in range(6) if other != guest] for guest in range(6)]

# Guests 0 and 1 would both have each other first; so would 2 and 3.
TWO_TWOS = [[1, 2, 3], [0, 3], [3, 0], [2, 1, 0]]


class RestlessTest(TestCase):
    def test_all_alone(self):
        self.assertEqual([(0, 1), (0, 2), (0, 3), (1, 3), (2, 3)], restless(TWO_TWOS, [None] * 4))

    def test_the_lesser_first_and_each_pair_once(self):
        self.assertEqual([(0, 1), (2, 3)], restless(TWO_TWOS, [2, 3, 0, 1]))
        self.assertEqual([(0, 1)], restless([[1], [0]], [None, None]))
        self.assertEqual([(0, 5)], restless([[5], [], [], [], [], [0]], [None] * 6))

    def test_mates_are_not_restless(self):
        self.assertEqual([], restless([[1], [0]], [1, 0]))
        self.assertEqual([], restless(TWO_TWOS, [1, 0, 3, 2]))

    def test_it_takes_both(self):
        # 1 would rather have 2, but 2 has guest 3, whom it would rather have.
        table = [[1], [2, 0], [3, 1], [2]]
        self.assertEqual([], restless(table, [1, 0, 3, 2]))
        self.assertEqual([(1, 2)], restless(table, [1, 0, None, None])[:1])

    def test_a_wish_that_is_not_returned(self):
        self.assertEqual([], restless([[1], []], [None, None]))
        self.assertEqual([], restless([[2, 1], [0], []], [1, 0, None]))

    def test_one_guest_and_empty_lists(self):
        self.assertEqual([], restless([[]], [None]))
        self.assertEqual([], restless([[]] * 6, [None] * 6))

    def test_against_the_reckoning(self):
        for table in TABLES:
            for mates in reckoning.every_mates(table):
                told = reckoning.restless_of(table, mates)
                self.assertEqual(told, restless(table, mates), (table, mates))
                self.assertIs(told == [], calm(table, mates), (table, mates))


class CalmTest(TestCase):
    def test_by_hand(self):
        self.assertIs(True, calm(TWO_TWOS, [1, 0, 3, 2]))
        self.assertIs(False, calm(TWO_TWOS, [2, 3, 0, 1]))
        self.assertIs(False, calm(TWO_TWOS, [1, 0, None, None]))
        self.assertIs(True, calm([[]], [None]))

    def test_of_the_ring_of_three_none_are(self):
        for mates in ([None, None, None], [1, 0, None], [2, None, 0], [None, 2, 1]):
            self.assertIs(False, calm(RING_OF_THREE, mates))


class AllTwosTest(TestCase):
    def test_one_guest_and_empty_lists(self):
        self.assertEqual([[None]], all_twos([[]]))
        self.assertEqual([[None] * 6], all_twos([[]] * 6))
        self.assertEqual([[None, None]], all_twos([[1], []]))

    def test_order(self):
        self.assertEqual([[None, None], [1, 0]], all_twos([[1], [0]]))
        self.assertEqual(
            [
                [None, None, None, None],
                [None, None, 3, 2],
                [None, 3, None, 1],
                [1, 0, None, None],
                [1, 0, 3, 2],
                [2, None, 0, None],
                [2, 3, 0, 1],
                [3, None, None, 0],
            ],
            all_twos(TWO_TWOS),
        )

    def test_the_order_goes_by_numbers_not_by_wishes(self):
        self.assertEqual([[None] * 3, [1, 0, None], [2, None, 0]], all_twos([[2, 1], [0], [0]]))

    def test_six_guests_who_all_suit_each_other(self):
        found = all_twos(ALL_OF_SIX)
        # One way with no two, 15 with one, 45 with two, 15 with three.
        self.assertEqual(76, len(found))
        self.assertEqual([None] * 6, found[0])
        self.assertEqual([5, 4, 3, 2, 1, 0], found[-1])

    def test_against_the_reckoning(self):
        for table in TABLES:
            self.assertEqual(reckoning.every_mates(table), all_twos(table), table)


class AllCalmTest(TestCase):
    def test_by_hand(self):
        self.assertEqual([[None]], all_calm([[]]))
        self.assertEqual([[1, 0]], all_calm([[1], [0]]))
        self.assertEqual([[1, 0, 3, 2]], all_calm(TWO_TWOS))
        self.assertEqual([[1, 0, 3, 2, 5, 4]], all_calm(ALL_OF_SIX))
        self.assertEqual([[1, 0, 3, 2, None], [3, 2, 1, 0, None]], all_calm(SQUARE_AND_ONE))

    def test_tables_without_calm_mates(self):
        self.assertEqual([], all_calm(RING_OF_THREE))
        self.assertEqual([], all_calm([[1, 2, 3], [2, 0, 3], [0, 1, 3], [0, 1, 2]]))
        self.assertEqual([], all_calm([[1, 4], [2, 0], [3, 1], [4, 2], [0, 3]]))
        self.assertEqual([], all_calm(RING_OF_THREE + [[], [5], [4]]))

    def test_against_the_reckoning(self):
        for table in TABLES:
            self.assertEqual(reckoning.calm_of(table), all_calm(table), table)

    def test_all_calm_mates_leave_the_same_guests_alone(self):
        several = 0
        for table in TABLES + [SQUARE_AND_ONE]:
            alone = [[guest for guest, mate in enumerate(mates) if mate is None] for mates in all_calm(table)]
            self.assertEqual(alone[:1] * len(alone), alone, table)
            several += len(alone) > 1 and alone[0] != []
        # Else the tables would not have put this to the test.
        self.assertGreater(several, 1)

    def test_the_tables_of_the_tests_have_no_one_and_several_calm_mates(self):
        counts = [len(all_calm(table)) for table in TABLES]
        for count in (0, 1, 2):
            self.assertIn(count, counts)

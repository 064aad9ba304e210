"""Point 14: what is refused, with what, and in which order."""

from bedtwos.dealing import dealt
from bedtwos.errors import BadGuest, BadMates, BadParties, BadWishes
from bedtwos.inn import Inn
from bedtwos.notes import shown
from bedtwos.parties import holds, paired, rings
from bedtwos.twos import all_calm, all_twos, calm, restless
from bedtwos.wishes import need_wishes, rather, suits
from tests import reckoning
from tests.refusing import RefusalTest
from tests.tables import NO_GUESTS, NO_PARTIES, RING_OF_THREE, wrong_tables

OF_WISHES_ALONE = (need_wishes, all_twos, all_calm, dealt, Inn, shown)
OF_MATES = (restless, calm)

# 0 and 1, 1 and 2 suit each other, 0 and 2 don't: 2's wish for 0 is not returned.
THREE = [[1], [0, 2], [1, 0]]


class BadWishesTest(RefusalTest):
    def test_at_every_function(self):
        for name, table in wrong_tables():
            with self.subTest(name):
                for function in OF_WISHES_ALONE:
                    self.assert_refused(BadWishes, function, table)
                self.assert_refused(BadWishes, suits, table, 0, 0)
                self.assert_refused(BadWishes, rather, table, 0, None, None)
                for function in OF_MATES:
                    self.assert_refused(BadWishes, function, table, [None])
                for after in ([0], [1, 0], [0, 1, 2], [0, 1, 2, 3, 4, 5]):
                    self.assert_refused(BadWishes, holds, table, after)

    def test_with_all_else_wrong(self):
        for name, table in wrong_tables():
            with self.subTest(name):
                self.assert_refused(BadWishes, suits, table, True, -1)
                self.assert_refused(BadWishes, rather, table, "0", 7, [])
                for function in OF_MATES:
                    self.assert_refused(BadWishes, function, table, (7, "0"))
                for after in (None, [], [0, 0], [True], (1, 0)):
                    self.assert_refused(BadWishes, holds, table, after)

    def test_ahead_of_all_else(self):
        for table in (None, [], [[]] * 7, [[0]], [[1, 1], [0]], [[1], [True]], [[1], (0,)]):
            for wrong in NO_GUESTS:
                self.assert_refused(BadWishes, suits, table, wrong, wrong)
                self.assert_refused(BadWishes, rather, table, wrong, wrong, wrong)
            for function in OF_MATES:
                for wrong in (None, "", (), [], [0], [7, 7], [1, None]):
                    self.assert_refused(BadWishes, function, table, wrong)
            for wrong in NO_PARTIES:
                self.assert_refused(BadWishes, holds, table, wrong)


class BadGuestTest(RefusalTest):
    def test_suits(self):
        for place, wrong in enumerate(NO_GUESTS + [None, 3, -3]):
            with self.subTest(place=place):
                self.assert_refused(BadGuest, suits, THREE, wrong, 0)
                self.assert_refused(BadGuest, suits, THREE, 0, wrong)
                self.assert_refused(BadGuest, suits, THREE, wrong, wrong)

    def test_rather(self):
        for place, wrong in enumerate(NO_GUESTS + [3, -3]):
            with self.subTest(place=place):
                self.assert_refused(BadGuest, rather, THREE, wrong, 1, None)
                for right in (None, 0, 1, 2):
                    self.assert_refused(BadGuest, rather, THREE, 0, wrong, right)
                    self.assert_refused(BadGuest, rather, THREE, 0, right, wrong)
                self.assert_refused(BadGuest, rather, THREE, 0, wrong, wrong)

    def test_none_is_no_guest_that_would_rather_have_one(self):
        self.assert_refused(BadGuest, rather, THREE, None, 1, 0)
        self.assert_refused(BadGuest, rather, THREE, None, None, None)

    def test_one_below_the_number_of_guests_is_the_greatest(self):
        for many in range(1, 7):
            table = [[] for _ in range(many)]
            self.assertIs(False, suits(table, many - 1, many - 1))
            self.assertIs(False, rather(table, many - 1, many - 1, None))
            self.assert_refused(BadGuest, suits, table, many, 0)
            self.assert_refused(BadGuest, suits, table, 0, many)
            self.assert_refused(BadGuest, rather, table, many, None, None)
            self.assert_refused(BadGuest, rather, table, 0, many, None)
            self.assert_refused(BadGuest, rather, table, 0, None, many)


class BadMatesTest(RefusalTest):
    def assert_no_mates(self, table, mates):
        for function in OF_MATES:
            self.assert_refused(BadMates, function, table, mates)

    def test_no_list(self):
        for mates in (None, True, 3, "", "102", (1, 0, None), {}, {0: 1, 1: 0, 2: None}, {None}, b"012", range(3)):
            self.assert_no_mates(THREE, mates)

    def test_too_short_and_too_long(self):
        for mates in ([], [None], [1, 0], [None] * 2, [None] * 4, [1, 0, None, None], [None] * 6):
            self.assert_no_mates(THREE, mates)
        self.assert_no_mates([[]], [])
        self.assert_no_mates([[]], [None, None])

    def test_no_guest(self):
        for wrong in NO_GUESTS + [3, -3]:
            self.assert_no_mates(THREE, [wrong, None, None])
            self.assert_no_mates(THREE, [None, None, wrong])
            self.assert_no_mates(THREE, [wrong, 0, None])
            self.assert_no_mates(THREE, [1, wrong, None])

    def test_what_equals_a_guest_but_is_none(self):
        for mates in ([True, 0], [1, False], [True, False], [1.0, 0], [1, 0.0]):
            self.assert_no_mates([[1], [0]], mates)

    def test_a_negative_place_is_no_guest(self):
        self.assert_no_mates([[1], [0]], [-1, 0])
        self.assert_no_mates([[1], [0]], [1, -2])

    def test_not_each_others(self):
        for mates in ([1, None, None], [None, 0, None], [1, 2, None], [1, 2, 1], [1, 0, 1], [1, 2, 0]):
            self.assert_no_mates(THREE, mates)
        self.assert_no_mates(RING_OF_THREE, [1, 2, 0])

    def test_not_suiting_each_other(self):
        self.assert_no_mates(THREE, [2, None, 0])
        self.assert_no_mates([[], []], [1, 0])
        self.assert_no_mates([[1], []], [1, 0])
        self.assert_no_mates([[], [0]], [1, 0])

    def test_the_guest_itself(self):
        self.assert_no_mates([[]], [0])
        self.assert_no_mates(THREE, [0, None, None])
        self.assert_no_mates(THREE, [1, 0, 2])


class BadPartiesTest(RefusalTest):
    def assert_no_parties(self, after):
        self.assert_refused(BadParties, rings, after)
        for ahead in (False, True):
            self.assert_refused(BadParties, paired, after, ahead)
        for many in range(1, 7):
            self.assert_refused(BadParties, holds, [[] for _ in range(many)], after)

    def test_no_list_of_next_ones(self):
        for place, after in enumerate(NO_PARTIES):
            with self.subTest(place=place):
                self.assert_no_parties(after)

    def test_each_place_wrong_alone(self):
        for many in range(1, 7):
            for place in range(many):
                others = [guest for guest in range(many) if guest != place]
                for wrong in NO_GUESTS + [None, many, -many, *others]:
                    after = list(range(many))
                    after[place] = wrong
                    self.assert_no_parties(after)

    def test_of_one_to_six_guests(self):
        for many in range(1, 7):
            after = list(range(many))
            self.assertEqual([[guest] for guest in after], rings(after))
            self.assertEqual([None] * many, paired(after, True))
            self.assert_no_parties(tuple(after))
        self.assert_no_parties([])
        self.assert_no_parties(list(range(7)))

    def test_as_many_as_there_are_guests(self):
        for many in range(1, 7):
            table = [[] for _ in range(many)]
            for length in range(1, 7):
                after = list(range(length))
                if length == many:
                    self.assertIs(True, holds(table, after))
                else:
                    self.assert_refused(BadParties, holds, table, after)
        self.assert_refused(BadParties, holds, RING_OF_THREE, [1, 0])
        self.assert_refused(BadParties, holds, RING_OF_THREE, [1, 2, 0, 3])

    def test_what_equals_a_guest_but_is_none(self):
        for after in ([True, 0], [1, False], [True, False], [1.0, 0], [False], [0.0]):
            self.assert_no_parties(after)

    def test_a_party_of_three_or_of_five_is_not_put_in_twos(self):
        refused = 0
        for many in range(1, 7):
            for after in reckoning.every_after(many):
                if reckoning.has_odd_party(after):
                    refused += 1
                    for ahead in (False, True):
                        self.assert_refused(BadParties, paired, after, ahead)
        # Those of each size without such a party are 1, 2, 4, 16, 56 and 376.
        self.assertEqual(1 + 2 + 6 + 24 + 120 + 720 - 455, refused)
        self.assert_refused(BadParties, paired, [1, 2, 0], False)
        self.assert_refused(BadParties, paired, [1, 0, 3, 4, 2, 5], True)
        self.assert_refused(BadParties, paired, [0, 2, 3, 4, 5, 1], False)

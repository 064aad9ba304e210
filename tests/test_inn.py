"""Points 11 and 12: an Inn, whose mates stay as long as they are calm, and that refuses without a change."""

from bedtwos.errors import BadGuest, BadWishes
from bedtwos.inn import Inn
from tests import reckoning
from tests.refusing import RefusalTest
from tests.tables import NO_GUESTS, NO_ROWS, RING_OF_THREE, SQUARE_AND_ONE, TABLES, rows_for

FIRST, SECOND = [1, 0, 3, 2, None], [3, 2, 1, 0, None]


def first_calm(table):
    found = reckoning.calm_of(table)
    return found[0] if found else None


class BeginningTest(RefusalTest):
    def test_by_hand(self):
        self.assertEqual([None], Inn([[]]).twos())
        self.assertEqual([None] * 6, Inn([[]] * 6).twos())
        self.assertEqual(FIRST, Inn(SQUARE_AND_ONE).twos())
        self.assertIsNone(Inn(RING_OF_THREE).twos())

    def test_against_the_reckoning(self):
        for table in TABLES:
            inn = Inn(table)
            self.assertEqual(first_calm(table), inn.twos(), table)
            self.assertEqual(table, inn.table())


class TurnTest(RefusalTest):
    def test_mates_stay_though_others_come_first(self):
        inn = Inn(SQUARE_AND_ONE)
        # 0 and 3 would now have each other before all others, so that only the second ones are calm.
        inn.turn(0, [3, 1, 4])
        self.assertEqual(SECOND, inn.twos())
        # By this list both are calm again, and the first ones would come first.
        inn.turn(0, [1, 3, 4])
        self.assertEqual(SQUARE_AND_ONE, inn.table())
        self.assertEqual(SECOND, inn.twos())
        self.assertEqual(FIRST, Inn(inn.table()).twos())

    def test_a_turn_that_leaves_the_table_as_it_was(self):
        for table in TABLES[::20] + [RING_OF_THREE, SQUARE_AND_ONE]:
            inn = Inn(table)
            for guest, row in enumerate(table):
                self.assertIsNone(inn.turn(guest, row))
                self.assertEqual((table, first_calm(table)), (inn.table(), inn.twos()))

    def test_a_turn_that_leaves_the_table_as_it_was_leaves_later_mates(self):
        inn = Inn(SQUARE_AND_ONE)
        inn.turn(0, [3, 1, 4])
        inn.turn(0, [1, 3, 4])
        for guest, row in enumerate(SQUARE_AND_ONE):
            inn.turn(guest, row)
            self.assertEqual(SECOND, inn.twos())

    def test_mates_who_no_longer_suit_each_other_do_not_stay(self):
        # No two are restless at the old mates, as no two suit each other any more.
        inn = Inn([[1], [0]])
        inn.turn(0, [])
        self.assertEqual([None, None], inn.twos())
        inn.turn(0, [1])
        self.assertEqual([1, 0], inn.twos())
        inn.turn(1, [])
        self.assertEqual([None, None], inn.twos())

    def test_mates_of_whom_two_are_restless_do_not_stay(self):
        inn = Inn([[1, 2], [0], []])
        self.assertEqual([1, 0, None], inn.twos())
        inn.turn(2, [0])
        self.assertEqual([1, 0, None], inn.twos())
        inn.turn(0, [2, 1])
        self.assertEqual([2, None, 0], inn.twos())

    def test_all_alone(self):
        inn = Inn([[], [0], [0, 1]])
        self.assertEqual([None] * 3, inn.twos())
        inn.turn(0, [2])
        self.assertEqual([2, None, 0], inn.twos())
        inn.turn(2, [])
        self.assertEqual([None] * 3, inn.twos())

    def test_to_none_and_to_mates_again(self):
        inn = Inn([[1, 2], [2, 0], [1, 0]])
        self.assertEqual([None, 2, 1], inn.twos())
        inn.turn(2, [0, 1])
        self.assertEqual(RING_OF_THREE, inn.table())
        self.assertIsNone(inn.twos())
        inn.turn(2, [0])
        self.assertEqual([1, 0, None], inn.twos())
        inn.turn(2, [0, 1])
        self.assertIsNone(inn.twos())
        inn.turn(2, [1, 0])
        self.assertEqual([None, 2, 1], inn.twos())

    def test_mates_that_were_there_before_none_are_forgotten(self):
        inn = Inn([[1, 2, 3], [3, 2, 0], [1, 0, 3], [0, 1, 2]])
        self.assertEqual([2, 3, 0, 1], inn.twos())
        inn.turn(0, [3])
        inn.turn(0, [1, 2, 3])
        self.assertEqual([3, 2, 1, 0], inn.twos())
        # Without 2 the others are a ring of three.
        inn.turn(2, [])
        self.assertIsNone(inn.twos())
        inn.turn(2, [1, 0, 3])
        self.assertEqual([2, 3, 0, 1], inn.twos())

    def test_one_guest(self):
        inn = Inn([[]])
        inn.turn(0, [])
        self.assertEqual(([[]], [None]), (inn.table(), inn.twos()))


class ManyTurnsTest(RefusalTest):
    def test_against_the_reckoning(self):
        seen = []
        for table in [[[]], [[1], [0]], RING_OF_THREE, *TABLES[200:700:100], SQUARE_AND_ONE, *TABLES[-240::60]]:
            seen += self.go_through_turns(table)
        # Else the turns would not have put it to the test.
        for what in ("stay", "stay, though not the first", "anew", "to None", "to mates", "None on"):
            self.assertGreater(seen.count(what), 5, what)

    def go_through_turns(self, table):
        """Make turns in an Inn and in the reckoning; answer what was seen to happen."""
        many = len(table)
        inn, rows, mates, seen = Inn(table), [list(row) for row in table], first_calm(table), []
        for number in range(60 if many == 6 else 150):
            guest = number * 7 % 11 % many
            choices = rows_for(guest, many, 5)
            # Long lists, at the end of all, and others take turns, so that the wishes are often returned.
            place = -1 - number * 61 % (len(choices) // 2 + 1) if number % 3 else number * 37 % len(choices)
            rows[guest] = choices[place]
            first, before = first_calm(rows), mates
            if before is None or not reckoning.stay(rows, before):
                mates = first
            inn.turn(guest, list(rows[guest]))
            self.assertEqual((rows, mates), (inn.table(), inn.twos()), number)
            seen.append(self.what_happened(before, mates, first))
        return seen

    def what_happened(self, before, mates, first):
        if mates is None:
            return "None on" if before is None else "to None"
        if before is None:
            return "to mates"
        if before != mates:
            return "anew"
        return "stay" if mates == first else "stay, though not the first"


class RefusedTurnTest(RefusalTest):
    def setUp(self):
        self.inns = [Inn(RING_OF_THREE), Inn([[]]), Inn([[1], [0]]), Inn(SQUARE_AND_ONE), Inn([[]] * 6)]
        # Mates that aren't the first ones would not come back if a refused turn had taken new ones.
        self.inns[3].turn(0, [3, 1, 4])
        self.inns[3].turn(0, [1, 3, 4])

    def assert_turn_refused(self, kind, inn, guest, row):
        before = inn.table(), inn.twos()
        self.assert_refused(kind, inn.turn, guest, row)
        self.assertEqual(before, (inn.table(), inn.twos()))

    def test_wrong_guests(self):
        for inn in self.inns:
            many = len(inn.table())
            for wrong in NO_GUESTS + [None, many, -many]:
                self.assert_turn_refused(BadGuest, inn, wrong, [])

    def test_the_guest_ahead_of_the_list(self):
        for inn in self.inns:
            many = len(inn.table())
            for wrong in (None, True, "0", -1, many):
                for row in NO_ROWS + [[wrong], [many], [0, 0], [None]]:
                    self.assert_turn_refused(BadGuest, inn, wrong, row)

    def test_wrong_lists(self):
        for inn in self.inns:
            many = len(inn.table())
            for guest in range(many):
                for row in NO_ROWS:
                    self.assert_turn_refused(BadWishes, inn, guest, row)
                others = [other for other in range(many) if other != guest]
                for wrong in NO_GUESTS + [None, many, -many, guest]:
                    for row in ([wrong], others + [wrong], [wrong] + others):
                        self.assert_turn_refused(BadWishes, inn, guest, row)
                for other in others:
                    self.assert_turn_refused(BadWishes, inn, guest, others + [other])

    def test_turns_that_follow_are_as_if_nothing_had_been(self):
        inn = self.inns[3]
        self.assert_turn_refused(BadWishes, inn, 0, [0])
        self.assert_turn_refused(BadGuest, inn, 5, [0])
        self.assertEqual(SECOND, inn.twos())
        inn.turn(0, [1])
        self.assertEqual((FIRST, [1]), (inn.twos(), inn.table()[0]))

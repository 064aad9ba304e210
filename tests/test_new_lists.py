"""Point 1: nothing that is handed in is changed, and all lists that are answered are new ones."""

from copy import deepcopy
from unittest import TestCase

from bedtwos.dealing import dealt
from bedtwos.inn import Inn
from bedtwos.notes import read, shown
from bedtwos.parties import holds, paired, rings
from bedtwos.twos import all_calm, all_twos, calm, restless
from bedtwos.wishes import need_wishes, rather, suits
from tests.tables import RING_OF_THREE, SQUARE_AND_ONE, TABLES

EVERY_FIFTH = TABLES[::5] + [SQUARE_AND_ONE]

# Parties of one, two, four and six.
AFTERS = [[0], [1, 0], [2, 1, 0], [1, 2, 3, 0], [2, 3, 1, 0, 4], [3, 2, 4, 0, 5, 1], [1, 2, 3, 4, 5, 0]]


def spoil(answer):
    """Change a list as far down as lists go."""
    for part in answer:
        if isinstance(part, list):
            spoil(part)
    answer.append("spoilt")
    answer.reverse()


class NothingIsChangedTest(TestCase):
    def test_of_wishes(self):
        for table in EVERY_FIFTH:
            before = deepcopy(table)
            need_wishes(table)
            suits(table, 0, len(table) - 1)
            rather(table, 0, len(table) - 1, None)
            all_twos(table)
            all_calm(table)
            dealt(table)
            shown(table)
            Inn(table)
            self.assertEqual(before, table)

    def test_of_parties(self):
        for after in AFTERS:
            table = [[other for other in range(len(after)) if other != guest] for guest in range(len(after))]
            before, after_before = deepcopy(table), list(after)
            rings(after)
            holds(table, after)
            paired(after, False)
            paired(after, True)
            self.assertEqual((before, after_before), (table, after))

    def test_of_a_turn(self):
        inn, row = Inn(SQUARE_AND_ONE), [3, 1, 4]
        inn.turn(0, row)
        inn.turn(3, [0, 2])
        inn.turn(0, [])
        self.assertEqual([3, 1, 4], row)

    def test_of_wishes_and_mates(self):
        for table in EVERY_FIFTH:
            before = deepcopy(table)
            for mates in all_twos(table):
                mates_before = list(mates)
                restless(table, mates)
                calm(table, mates)
                self.assertEqual((before, mates_before), (table, mates))

    def test_where_it_is_refused(self):
        for function, given in (
            (need_wishes, [[[1, 1], [0]]]),
            (suits, [[[1], [0]], 0, 2]),
            (rather, [[[1], [0]], 0, 1, 2]),
            (restless, [[[1], [0]], [1, None]]),
            (calm, [[[1], []], [1, 0]]),
            (all_twos, [[[2], [0]]]),
            (all_calm, [[[0], [0]]]),
            (dealt, [[[1], [1]]]),
            (shown, [[[1, 0], [0]]]),
            (Inn, [[[1], [0, 2]]]),
            (Inn([[1], [0]]).turn, [0, [1, 1]]),
            (rings, [[1, 1, 0]]),
            (holds, [[[1], [0]], [1, 2]]),
            (paired, [[1, 2, 0, 4, 3], True]),
        ):
            before = deepcopy(given)
            with self.assertRaises(ValueError):
                function(*given)
            self.assertEqual(before, given)


class AnswersAreNewTest(TestCase):
    def assert_new(self, function, *given):
        answer = function(*given)
        kept = deepcopy(answer)
        later = function(*given)
        spoil(answer)
        self.assertEqual(kept, later)
        self.assertEqual(kept, function(*given))

    def test_changing_an_answer_changes_no_other_one(self):
        for table in EVERY_FIFTH:
            self.assert_new(all_twos, table)
            self.assert_new(all_calm, table)
            self.assert_new(restless, table, [None] * len(table))
            self.assert_new(read, shown(table))
        for after in AFTERS:
            self.assert_new(rings, after)
            self.assert_new(paired, after, False)
            self.assert_new(paired, after, True)

    def test_changing_what_is_dealt_changes_no_other_answer(self):
        for table in EVERY_FIFTH + [RING_OF_THREE]:
            answer = dealt(table)
            kept = deepcopy(answer)
            later = dealt(table)
            spoil(answer[1])
            self.assertEqual((kept, kept), (later, dealt(table)))

    def test_the_lists_of_one_answer_are_not_one_another(self):
        for table in EVERY_FIFTH:
            for answer in (all_twos(table), all_calm(table), read(shown(table)), Inn(table).table()):
                self.assertEqual(len(answer), len({id(part) for part in answer}))
        for after in AFTERS:
            found = rings(after)
            self.assertEqual(len(found), len({id(ring) for ring in found}))

    def test_changing_wishes_and_mates_changes_no_earlier_answer(self):
        table, mates = [[1, 2], [0], [0]], [None, None, None]
        answers = [all_twos(table), all_calm(table), restless(table, mates)]
        kept = deepcopy(answers)
        table[0].reverse()
        table[2].clear()
        mates[0] = 1
        self.assertEqual(kept, answers)
        all_twos([[], []])
        self.assertEqual(kept, answers)

    def test_changing_parties_changes_no_earlier_answer(self):
        after = [1, 2, 3, 0]
        answers = [rings(after), paired(after, True)]
        kept = deepcopy(answers)
        after.clear()
        self.assertEqual(kept, answers)


class AnInnKeepsItsOwnTest(TestCase):
    def assert_kept(self, inn, table, mates):
        self.assertEqual((table, mates), (inn.table(), inn.twos()))
        # What it keeps shows as well in what comes of a turn that changes nothing.
        inn.turn(0, list(table[0]))
        self.assertEqual((table, mates), (inn.table(), inn.twos()))

    def test_changing_what_it_was_made_of(self):
        for table in EVERY_FIFTH + [RING_OF_THREE]:
            handed = deepcopy(table)
            inn = Inn(handed)
            mates = inn.twos()
            spoil(handed)
            self.assert_kept(inn, table, mates)

    def test_changing_a_list_that_was_handed_to_a_turn(self):
        inn, row = Inn(SQUARE_AND_ONE), [3, 1, 4]
        inn.turn(0, row)
        row.remove(3)
        self.assert_kept(inn, [[3, 1, 4], *SQUARE_AND_ONE[1:]], [3, 2, 1, 0, None])

    def test_changing_what_it_answered(self):
        for table in EVERY_FIFTH + [RING_OF_THREE]:
            inn = Inn(table)
            mates = inn.twos()
            spoil(inn.table())
            spoil(inn.twos() or [])
            self.assert_kept(inn, table, mates)

    def test_turns_change_nothing_that_was_handed_or_answered(self):
        handed = deepcopy(SQUARE_AND_ONE)
        inn = Inn(handed)
        answers = [inn.table(), inn.twos()]
        inn.turn(0, [3, 1, 4])
        inn.turn(4, [])
        inn.turn(2, [])
        self.assertEqual([SQUARE_AND_ONE, [1, 0, 3, 2, None]], answers)
        self.assertEqual(SQUARE_AND_ONE, handed)

    def test_two_inns_of_the_same_wishes(self):
        handed = deepcopy(SQUARE_AND_ONE)
        one, other = Inn(handed), Inn(handed)
        one.turn(0, [])
        one.turn(3, [2])
        self.assert_kept(other, SQUARE_AND_ONE, [1, 0, 3, 2, None])

    def test_one_list_for_two_guests(self):
        row = [2]
        inn = Inn([row, row, [0, 1]])
        inn.turn(0, row)
        inn.turn(0, [])
        self.assert_kept(inn, [[], [2], [0, 1]], [None, 2, 1])
        self.assertEqual([2], row)

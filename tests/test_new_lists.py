"""Point 1: nothing that is handed in is changed, and all lists that are answered are new ones."""

from copy import deepcopy
from unittest import TestCase

from bedtwos.twos import all_calm, all_twos, calm, restless
from bedtwos.wishes import need_wishes, rather, suits
from tests.tables import SQUARE_AND_ONE, TABLES

EVERY_FIFTH = TABLES[::5] + [SQUARE_AND_ONE]


def spoil(answer):
    """Change a list as far down as lists go."""
    for part in answer:
        if isinstance(part, list):
            spoil(part)
    answer.append("spoilt")
    answer.reverse()


class NothingIsChangedTest(TestCase):
    def test_of_wishes(self):
        for table in EVERY_FIFTH:
            before = deepcopy(table)
            need_wishes(table)
            suits(table, 0, len(table) - 1)
            rather(table, 0, len(table) - 1, None)
            all_twos(table)
            all_calm(table)
            self.assertEqual(before, table)

    def test_of_wishes_and_mates(self):
        for table in EVERY_FIFTH:
            before = deepcopy(table)
            for mates in all_twos(table):
                mates_before = list(mates)
                restless(table, mates)
                calm(table, mates)
                self.assertEqual((before, mates_before), (table, mates))

    def test_where_it_is_refused(self):
        for function, given in (
            (need_wishes, [[[1, 1], [0]]]),
            (suits, [[[1], [0]], 0, 2]),
            (rather, [[[1], [0]], 0, 1, 2]),
            (restless, [[[1], [0]], [1, None]]),
            (calm, [[[1], []], [1, 0]]),
            (all_twos, [[[2], [0]]]),
            (all_calm, [[[0], [0]]]),
        ):
            before = deepcopy(given)
            with self.assertRaises(ValueError):
                function(*given)
            self.assertEqual(before, given)


class AnswersAreNewTest(TestCase):
    def assert_new(self, function, *given):
        answer = function(*given)
        kept = deepcopy(answer)
        later = function(*given)
        spoil(answer)
        self.assertEqual(kept, later)
        self.assertEqual(kept, function(*given))

    def test_changing_an_answer_changes_no_other_one(self):
        for table in EVERY_FIFTH:
            self.assert_new(all_twos, table)
            self.assert_new(all_calm, table)
            self.assert_new(restless, table, [None] * len(table))

    def test_the_lists_of_one_answer_are_not_one_another(self):
        for table in EVERY_FIFTH:
            for answer in (all_twos(table), all_calm(table)):
                self.assertEqual(len(answer), len({id(mates) for mates in answer}))

    def test_changing_wishes_and_mates_changes_no_earlier_answer(self):
        table, mates = [[1, 2], [0], [0]], [None, None, None]
        answers = [all_twos(table), all_calm(table), restless(table, mates)]
        kept = deepcopy(answers)
        table[0].reverse()
        table[2].clear()
        mates[0] = 1
        self.assertEqual(kept, answers)
        all_twos([[], []])
        self.assertEqual(kept, answers)

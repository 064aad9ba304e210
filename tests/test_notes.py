"""Point 13: wishes written and read, and the texts that are refused."""

import re

from bedtwos.errors import NoNote
from bedtwos.notes import read, shown
from tests import reckoning
from tests.refusing import RefusalTest
from tests.tables import RING_OF_SIX, RING_OF_THREE, SQUARE_AND_ONE, TABLES

SIGNS = ["", " ", "\n", "\t", *"012345679", "-", "+", "_", ":", ",", "a", "~", "00", "  ", "\n\n", " 0", " 1", "\n1:"]

NO_TEXTS = [None, True, False, 0, 1, 1.5, b"", b"0:", b"0: 1\n1: 0", [], ["0:"], [[]], [[1], [0]], (), {}, {"0:"}]


def meant(text):
    """The wishes that a text tells, by what it says row by row, or None where it is not written just so."""
    rows = text.split("\n")
    if len(rows) > 6 or not all(re.fullmatch("[0-5]:( [0-5])*", row) for row in rows):
        return None
    if [int(row[0]) for row in rows] != list(range(len(rows))):
        return None
    table = [[int(sign) for sign in row[2:].split()] for row in rows]
    for guest, row in enumerate(table):
        if guest in row or len(set(row)) < len(row) or max(row, default=0) >= len(rows):
            return None
    return table


class ShownTest(RefusalTest):
    def test_by_hand(self):
        self.assertEqual("0:", shown([[]]))
        self.assertEqual("0: 1\n1:", shown([[1], []]))
        self.assertEqual("0:\n1: 0", shown([[], [0]]))
        self.assertEqual("0: 2 1\n1:\n2: 0", shown([[2, 1], [], [0]]))
        self.assertEqual("0: 1 2\n1: 2 0\n2: 0 1", shown(RING_OF_THREE))
        self.assertEqual("0:\n1:\n2:\n3:\n4:\n5: 4 3 2 1 0", shown([[], [], [], [], [], [4, 3, 2, 1, 0]]))

    def test_against_the_reckoning(self):
        for table in TABLES:
            self.assertEqual(reckoning.written(table), shown(table))
            self.assertIs(str, type(shown(table)))


class ReadTest(RefusalTest):
    def assert_no_note(self, *texts):
        for text in texts:
            with self.subTest(text=text):
                self.assert_refused(NoNote, read, text)

    def test_by_hand(self):
        self.assertEqual([[]], read("0:"))
        self.assertEqual([[1], []], read("0: 1\n1:"))
        self.assertEqual([[2, 1], [], [0]], read("0: 2 1\n1:\n2: 0"))
        self.assertEqual([[], [], [], [], [], [4, 3, 2, 1, 0]], read("0:\n1:\n2:\n3:\n4:\n5: 4 3 2 1 0"))

    def test_what_is_shown(self):
        for table in TABLES:
            again = read(shown(table))
            self.assertEqual(table, again)
            self.assertTrue(all(type(wish) is int for row in again for wish in row))

    def test_each_change_of_a_text(self):
        """Every sign of a text left out, and others put there or ahead of it."""
        read_well = refused = 0
        for table in TABLES[:130:9] + TABLES[130::120] + [RING_OF_THREE, RING_OF_SIX, SQUARE_AND_ONE]:
            text = reckoning.written(table)
            for place in range(len(text) + 1):
                for sign in SIGNS:
                    for changed in (text[:place] + sign + text[place:], text[:place] + sign + text[place + 1 :]):
                        told = meant(changed)
                        if told is None:
                            refused += 1
                            self.assert_refused(NoNote, read, changed)
                        else:
                            read_well += 1
                            self.assertEqual(told, read(changed), changed)
        self.assertGreater(min(read_well, refused), 100)

    def test_blanks(self):
        self.assert_no_note("0: ", " 0:", "0 :", "0: 1\n1: ", "0: 1\n 1:", "0:1\n1:", "0:  1\n1:", "0: 1 \n1:")
        self.assert_no_note("0: 12\n1:\n2:", "0: 1  2\n1:\n2:", "0:1 2\n1:\n2:", " ", "  ", "0: 1\n1: \n2:")

    def test_line_feeds(self):
        self.assert_no_note("\n", "0:\n", "\n0:", "0: 1\n1:\n", "0: 1\n\n1:", "\n0: 1\n1:", "0: 1\n1:\n\n", "0: 1 1:")
        self.assert_no_note("0:\n1", "0\n:", "0: 1\n1:\n2:\n\n")

    def test_an_empty_text(self):
        self.assert_no_note("")

    def test_rows(self):
        self.assert_no_note("0:\n0:", "0:\n1:\n1:", "0:\n0:\n1:", "1:", "1:\n2:", "0:\n2:", "1:\n0:", "0:\n2:\n1:")
        self.assert_no_note("0:\n1:\n2:\n4:\n3:\n5:", "5:\n4:\n3:\n2:\n1:\n0:", "0:\n1:\n2:\n3:\n4:\n5:\n5:")
        self.assert_no_note("0", ":", "0::", "0: 1:\n1:", "0:\n1: :", "0;", "0: 1\n1", "0: 1\n: 0")

    def test_seven_rows(self):
        six = "0:\n1:\n2:\n3:\n4:\n5:"
        self.assertEqual([[]] * 6, read(six))
        self.assert_no_note(six + "\n6:", six + "\n6: 0", six.replace("0:", "0: 6") + "\n6:")
        self.assert_no_note("\n".join(f"{guest}:" for guest in range(12)))

    def test_numbers(self):
        self.assert_no_note("0: +1\n1:", "0: -1\n1:", "0: 01\n1:", "00:", "+0:", "-0:", "0: 1\n01:", "0: 1\n+1:")
        self.assert_no_note("0: 1.0\n1:", "0: 1_\n1:", "0: 0x1\n1:", "0: one\n1:", "0:\n1: -0", "0:\n1: 00", "0: ~\n1:")
        self.assert_no_note("0: 1, 2\n1:\n2:", "0: 1,2\n1:\n2:", "0: None", "0: True\n1:", "0: []", "0: '1'\n1:")

    def test_tabs(self):
        self.assert_no_note("\t", "0:\t", "0:\t1\n1:", "0: 1\t\n1:", "0: 1\t2\n1:\n2:", "\t0:", "0\t:", "0: 1\n\t1:")
        self.assert_no_note("0: \t1\n1:", "0:\t 1\n1:", "0: 1\n1:\t")

    def test_guests_that_are_not_there(self):
        self.assert_no_note("0: 1", "0: 2\n1:", "0: 1\n1: 2", "0: 6\n1:", "0: 9\n1:", "0: 10\n1:", "0: 1 2\n1: 0")
        self.assert_no_note("0:\n1:\n2:\n3:\n4:\n5: 6", "0: " + "1" * 5000 + "\n1:")

    def test_the_guest_itself(self):
        self.assert_no_note("0: 0", "0: 1\n1: 1", "0: 1 0\n1:", "0:\n1: 0\n2: 0 2")

    def test_a_guest_twice(self):
        self.assert_no_note("0: 1 1\n1:", "0: 1 2 1\n1:\n2:", "0: 1\n1: 0 0")

    def test_no_text(self):
        for wrong in NO_TEXTS:
            self.assert_no_note(wrong)

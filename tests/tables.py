"""The tables that the tests go through, and what is handed in wrongly.

The tables are fixed ones: each run of the tests sees the same.
"""

from itertools import permutations
from math import gcd, prod


def rows_for(guest, many, longest):
    """All lists that a guest can have, up to a length."""
    others = [other for other in range(many) if other != guest]
    lengths = range(min(longest, len(others)) + 1)
    return [list(row) for length in lengths for row in permutations(others, length)]


def spread(many, count, longest=5):
    """So many tables (or all, if there are fewer), spread evenly over all tables of so many guests."""
    choices = [rows_for(guest, many, longest) for guest in range(many)]
    total = prod(len(rows) for rows in choices)
    # A stride near the golden section reaches each guest's lists, long and short, early on.
    stride = total * 618 // 1000
    while gcd(stride, total) != 1:
        stride += 1
    return [table_at(choices, number * stride % total) for number in range(min(count, total))]


def table_at(choices, number):
    table = []
    for rows in choices:
        number, place = divmod(number, len(rows))
        table.append(list(rows[place]))
    return table


# All tables of up to three guests; of more guests many, some of them with short lists.
TABLES = (
    spread(1, 1)
    + spread(2, 4)
    + spread(3, 125)
    + spread(4, 600)
    + spread(5, 300)
    + spread(6, 120)
    + spread(6, 120, longest=3)
)

# Each guest is liked best by the one before it and least by the one behind it: no calm mates.
RING_OF_THREE = [[1, 2], [2, 0], [0, 1]]

# Two calm mates, and guest 4, whom all of the others would have last, alone in both.
SQUARE_AND_ONE = [[1, 3, 4], [2, 0, 4], [3, 1, 4], [0, 2, 4], [0, 1, 2, 3]]

# As the ring of three, with two more in it, and with three more: of six there are calm mates again.
RING_OF_FIVE = [[1, 4], [2, 0], [3, 1], [4, 2], [0, 3]]
RING_OF_SIX = [[1, 5], [2, 0], [3, 1], [4, 2], [5, 3], [0, 4]]

# The ring of three, and another one of guests 3 to 5, who would have the first three last.
TWO_RINGS = [[1, 2, 3, 4, 5], [2, 0, 3, 4, 5], [0, 1, 3, 4, 5], [4, 5, 0, 1, 2], [5, 3, 0, 1, 2], [3, 4, 0, 1, 2]]

# What is no guest of any table, whoever is asked for.
NO_NUMBERS = [True, False, "0", "", 0.0, 1.0, [], [0], (0,), {}, {0}, b"0"]

# The last two are so long that Python refuses to write them out: a message must not try to.
NO_GUESTS = NO_NUMBERS + [-1, -6, 6, 7, 10**5000, -(10**5000)]

NO_TABLES = [None, True, 0, 3, "", "01", (), ([],), ([1], [0]), {}, {0: [1], 1: [0]}, {1}, b"", [], [[]] * 7, [[]] * 50]

NO_ROWS = [None, True, False, 0, 1, 1.5, "", "1", (), (1,), {}, {1: 0}, {1}, b"\x01", range(1, 2)]


# What is no list of next ones, whatever the number of guests.
NO_PARTIES = [
    *(None, True, False, 0, 3, "", "0", "10", b"", range(2), {}, {0: 0}, {0: 1, 1: 0}, {0}),
    *((), (0,), (1, 0), (1, 2, 0), [], [0, 1, 2, 3, 4, 5, 6], [1, 2, 3, 4, 5, 6, 0], [0] * 7, list(range(50))),
    *([1], [-1], [0, 0], [1, 1], [0, 2], [-1, 0], [1, -2], [2, 0, 2], [1, 2, 1], [1, 2, 3], [1, 2, 3, 4, 5, 1]),
    *([wrong] for wrong in NO_GUESTS + [None]),
    *([1, wrong] for wrong in NO_GUESTS + [None]),
    *([wrong, 0] for wrong in NO_GUESTS + [None]),
    *([wrong, 2, 3, 4, 5, 0] for wrong in NO_GUESTS + [None]),
    *([1, 2, 3, 4, 5, wrong] for wrong in NO_GUESTS + [None]),
]


def wrong_tables():
    """Pairs of a name and a table that is none, one for each way in which it can be wrong."""
    wrong = [(f"no table: {table!r}", table) for table in NO_TABLES]
    for many in (1, 2, 3, 6):
        for guest in range(many):
            wrong += [(f"guest {guest} of {many}, {name}", table) for name, table in wrong_at(guest, many)]
    return wrong


def wrong_at(guest, many):
    """The same, wrong in the list of one guest alone."""
    rows = [(f"no list: {row!r}", row) for row in NO_ROWS]
    rows += [("no whole number", [wish]) for wish in NO_NUMBERS + [None]]
    rows += [("no guest", [wish]) for wish in (-1, -many, many, many + 1, 10**5000)]
    rows += [("itself", [guest])]
    others = [other for other in range(many) if other != guest]
    rows += [("wrong behind right ones", others + [wish]) for wish in (True, "0", None, -1, many, guest)]
    rows += [("wrong ahead of right ones", [wish] + others) for wish in (False, "1", None, -1, many, guest)]
    rows += [("twice", [other, other]) for other in others]
    rows += [("twice, not side by side", others + others[:1])] if others else []
    return [(name, replaced(many, guest, row)) for name, row in rows]


def replaced(many, guest, row):
    table = [[other for other in range(many) if other != one] for one in range(many)]
    table[guest] = row
    return table

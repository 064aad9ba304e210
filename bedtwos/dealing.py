"""Dealing: calm mates for a table, or else the parties by which there can't be any."""

from itertools import permutations

from bedtwos.parties import parties_hold
from bedtwos.twos import all_calm


def first_parties(wishes):
    """The first parties that hold, by the numbers of the next ones; the wishes were looked at already."""
    found = [after for after in permutations(range(len(wishes))) if parties_hold(wishes, after)]
    # For every table there are some.
    return list(found[0])


def dealt(wishes):
    """The first calm mates, or, where there are none, parties that hold; refuse with BadWishes.

    Parties that hold have one of three or of five where there are no calm mates:
    else they could be put in twos, and such twos are calm. So this isn't asked of them.
    """
    found = all_calm(wishes)
    if found:
        return ("twos", found[0])
    return ("parties", first_parties(wishes))

"""Parties: rings of guests, each followed by its next, whether they hold, and how they are put in twos."""

from bedtwos.errors import BadParties
from bedtwos.twos import joined, restless_pairs
from bedtwos.wishes import MOST_GUESTS, in_both, is_ahead, is_guest, need_wishes


def need_parties(after):
    """Refuse with BadParties what is no list of next ones, of one to six guests."""
    if not isinstance(after, list):
        raise BadParties("parties are a list that has for each guest the next one")
    many = len(after)
    if not 1 <= many <= MOST_GUESTS:
        raise BadParties(f"there are from one to {MOST_GUESTS} guests, not {many}")
    for guest, following in enumerate(after):
        if not is_guest(following, many):
            raise BadParties(f"the next one of guest {guest} is no guest")
    if len(set(after)) < many:
        raise BadParties("a guest stands there twice")


# The bare answers below take wishes and parties that were looked at already.


def ring_from(after, first):
    """The party of a guest, from this guest on, all round."""
    ring = [first]
    while after[ring[-1]] != first:
        ring.append(after[ring[-1]])
    return ring


def all_rings(after):
    """All parties, each from its least guest on, in order."""
    found = [ring_from(after, guest) for guest in range(len(after))]
    # Each party was found once from each of its guests.
    return [ring for ring in found if ring[0] == min(ring)]


def ones_ahead(after):
    """For each guest the one whose next it is."""
    return [after.index(guest) for guest in range(len(after))]


def suit_their_next(wishes, after):
    """Whether each guest that isn't its own next suits its next."""
    return all([after[guest] == guest or in_both(wishes, guest, after[guest]) for guest in range(len(after))])


def look_onward(wishes, after, before):
    """Whether in parties of three or more each would rather have its next than the one ahead of it."""
    # Only in a party of one or of two is a guest's next also the one ahead of it.
    return all([
        after[guest] == before[guest] or is_ahead(wishes, guest, after[guest], before[guest])
        for guest in range(len(after))
    ])


def parties_hold(wishes, after):
    """Whether the parties hold."""
    if not suit_their_next(wishes, after):
        return False
    before = ones_ahead(after)
    # What no two may be is just restless, were the one ahead of each guest its mate:
    # a guest that is its own next doesn't suit itself, so to it that is as being alone.
    return look_onward(wishes, after, before) and restless_pairs(wishes, before) == []


def rings(after):
    """All parties, each from its least guest on, in order; refuse with BadParties."""
    need_parties(after)
    return all_rings(after)


def holds(wishes, after):
    """Whether the parties hold; refuse with BadWishes, then with BadParties."""
    need_wishes(wishes)
    need_parties(after)
    if len(after) != len(wishes):
        raise BadParties(f"parties are a list of {len(wishes)}")
    return parties_hold(wishes, after)


def paired(after, ahead):
    """Mates: in each party every other guest with its next, all round; those in parties of one are alone.

    The least guest is with its next, or, if told so, with the one ahead of it.
    Refuse with BadParties what are no parties, or have a party of three or of five.
    """
    found = rings(after)
    mates = [None] * len(after)
    for ring in found:
        if len(ring) == 1:
            continue
        if len(ring) % 2 == 1:
            raise BadParties(f"a party of {len(ring)} can't be put in twos")
        # Which guests are with their next depends on the one that is begun from.
        first = ring[1] if ahead else ring[0]
        turned = ring_from(after, first)
        for place in range(0, len(turned), 2):
            mates = joined(mates, turned[place], turned[place + 1])
    return mates

"""Twos: the mates of a table, the restless among its guests, and the mates that are calm."""

from bedtwos.errors import BadMates
from bedtwos.wishes import in_both, is_ahead, is_guest, need_wishes


def need_mates(wishes, mates):
    """Refuse with BadMates what are no mates of the table; its wishes were looked at already."""
    many = len(wishes)
    if not isinstance(mates, list) or len(mates) != many:
        raise BadMates(f"mates are a list of {many}")
    for guest, mate in enumerate(mates):
        if mate is None:
            continue
        if not is_guest(mate, many):
            raise BadMates(f"the mate of guest {guest} is neither a guest nor None")
        if mates[mate] != guest:
            raise BadMates(f"guest {guest} is not the mate of its mate")
        # No guest suits itself, so that this refuses a guest that is its own mate, too.
        if not in_both(wishes, guest, mate):
            raise BadMates(f"guest {guest} and its mate don't suit each other")


def restless_pairs(wishes, mates):
    """All pairs of restless guests, of wishes and mates that were looked at already."""
    many = len(wishes)
    return [
        (one, other)
        for one in range(many)
        for other in range(one + 1, many)
        # No guest would rather have one who doesn't suit it, or the mate that it has:
        # neither needs a question of its own.
        if is_ahead(wishes, one, other, mates[one]) and is_ahead(wishes, other, one, mates[other])
    ]


def restless(wishes, mates):
    """All pairs of restless guests, in order, the lesser first; refuse with BadWishes, then with BadMates."""
    need_wishes(wishes)
    need_mates(wishes, mates)
    return restless_pairs(wishes, mates)


def calm(wishes, mates):
    """Whether no two guests are restless; refuse with BadWishes, then with BadMates."""
    return restless(wishes, mates) == []


def joined(mates, one, other):
    """New mates: these, but with two guests of them put together."""
    changed = list(mates)
    changed[one] = other
    changed[other] = one
    return changed


def settled(wishes, mates, guest):
    """All mates that come of these by what a guest may do: stay alone, or join a later guest.

    All guests before it have chosen. So one that shares already stays where it is,
    and one that doesn't is left with the guests behind it: those before it chose otherwise.
    """
    found = [mates]
    if mates[guest] is None:
        for other in range(guest + 1, len(wishes)):
            if mates[other] is None and in_both(wishes, guest, other):
                found.append(joined(mates, guest, other))
    return found


def all_twos(wishes):
    """All mates of the table, in order; refuse with BadWishes."""
    need_wishes(wishes)
    found = [[None] * len(wishes)]
    # Guest by guest, each one's choices in order: so the mates come in order without sorting.
    for guest in range(len(wishes)):
        found = [further for mates in found for further in settled(wishes, mates, guest)]
    return found


def all_calm(wishes):
    """All calm mates of the table, in order; refuse with BadWishes."""
    return [mates for mates in all_twos(wishes) if restless_pairs(wishes, mates) == []]

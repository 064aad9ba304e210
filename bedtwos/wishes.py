"""Wishes: whom each guest would share a room with, the one it would like best first."""

from bedtwos.errors import BadGuest, BadWishes

MOST_GUESTS = 6


def is_guest(number, many):
    """Whether this is one of so many guests, counted from nought."""
    # To Python True and False are whole numbers, to the document they are none.
    if not isinstance(number, int) or isinstance(number, bool):
        return False
    return 0 <= number < many


def need_row(row, guest, many):
    """Refuse with BadWishes what can't be the list of this guest, one of so many."""
    if not isinstance(row, list):
        raise BadWishes(f"what guest {guest} wishes is no list")
    for wish in row:
        if not is_guest(wish, many) or wish == guest:
            raise BadWishes(f"guest {guest} wishes for what is no other guest")
    if len(set(row)) < len(row):
        raise BadWishes(f"guest {guest} wishes for a guest twice")


def need_wishes(wishes):
    """Refuse with BadWishes what is no table of wishes."""
    if not isinstance(wishes, list):
        raise BadWishes("wishes are a list of lists")
    many = len(wishes)
    if not 1 <= many <= MOST_GUESTS:
        raise BadWishes(f"there are from one to {MOST_GUESTS} guests, not {many}")
    for guest, row in enumerate(wishes):
        need_row(row, guest, many)


def need_guest(wishes, guest):
    """Refuse with BadGuest what is none of the guests of these wishes."""
    if not is_guest(guest, len(wishes)):
        raise BadGuest(f"a guest is a whole number from 0 to {len(wishes) - 1}")


# The bare answers below take wishes and guests that were looked at already:
# what asks them for many pairs of one table looks at it once, not each time.


def in_both(wishes, one, other):
    """Whether two guests suit each other."""
    return other in wishes[one] and one in wishes[other]


def is_ahead(wishes, guest, one, other):
    """Whether a guest would rather have one than the other, who are guests or None."""
    if one == other or one is None or not in_both(wishes, guest, one):
        return False
    if other is None or not in_both(wishes, guest, other):
        return True
    row = wishes[guest]
    return row.index(one) < row.index(other)


def suits(wishes, one, other):
    """Whether two guests suit each other; refuse with BadWishes, then with BadGuest."""
    need_wishes(wishes)
    need_guest(wishes, one)
    need_guest(wishes, other)
    return in_both(wishes, one, other)


def rather(wishes, guest, one, other):
    """Whether a guest would rather have one than the other; None is being alone.

    Refuse with BadWishes, then with BadGuest.
    """
    need_wishes(wishes)
    need_guest(wishes, guest)
    for choice in (one, other):
        if choice is not None:
            need_guest(wishes, choice)
    return is_ahead(wishes, guest, one, other)

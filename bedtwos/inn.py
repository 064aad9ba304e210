"""An inn, in which the guests' lists are changed one at a time."""

from bedtwos.twos import all_calm
from bedtwos.wishes import need_guest, need_row, need_wishes


class Inn:
    """Wishes, and calm mates by them, or None where there are none.

    It keeps lists of its own: those that are handed to it and those that it answers are others.
    """

    def __init__(self, wishes):
        """Begin with the first calm mates, or None; refuse with BadWishes."""
        need_wishes(wishes)
        self._wishes = [list(row) for row in wishes]
        self._mates = None
        self._settle()

    def turn(self, guest, row):
        """From now on this is the guest's list; refuse with BadGuest, then with BadWishes."""
        need_guest(self._wishes, guest)
        need_row(row, guest, len(self._wishes))
        self._wishes[guest] = list(row)
        self._settle()

    def twos(self):
        """The mates, or None."""
        if self._mates is None:
            return None
        return list(self._mates)

    def table(self):
        """The wishes as they are."""
        return [list(row) for row in self._wishes]

    def _settle(self):
        """Let the mates stay, or take the first calm ones, or None."""
        found = all_calm(self._wishes)
        # Those that were there are among these where all who share still suit each other and they are calm.
        if self._mates in found:
            return
        self._mates = found[0] if found else None

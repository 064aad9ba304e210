"""The refusals of the program: one class for each kind of thing that is refused."""


class BedError(ValueError):
    """Any refusal."""


class BadWishes(BedError):
    """Something that is no table of wishes."""


class BadGuest(BedError):
    """Something that is none of the guests."""


class BadMates(BedError):
    """Something that is no list of mates of the table."""


class BadParties(BedError):
    """Something that is no list of parties."""


class NoNote(BedError):
    """Something that is no text of written wishes."""

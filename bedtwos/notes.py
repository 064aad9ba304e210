"""Notes: wishes written as a text, and read again."""

from bedtwos.errors import BadWishes, NoNote
from bedtwos.wishes import need_wishes

# A tuple, not a text: in a text an empty one would be found, too.
NUMBERS = ("0", "1", "2", "3", "4", "5")


def shown_row(guest, row):
    """A guest's list, as it is written."""
    return f"{guest}:" + "".join(f" {wish}" for wish in row)


def read_row(guest, line):
    """The guest's list that is written there; refuse with NoNote. Whether it can have it is not looked at."""
    head, *words = line.split(" ")
    if head != f"{guest}:":
        raise NoNote(f"row {guest} doesn't begin with its guest")
    for word in words:
        if word not in NUMBERS:
            raise NoNote(f"in row {guest} stands what is no guest behind a blank")
    return [int(word) for word in words]


def shown(wishes):
    """The text of wishes; refuse with BadWishes."""
    need_wishes(wishes)
    rows = [shown_row(guest, row) for guest, row in enumerate(wishes)]
    return "\n".join(rows)


def read(text):
    """The wishes that are written there; refuse with NoNote."""
    if not isinstance(text, str):
        raise NoNote("what is read is a text")
    wishes = [read_row(guest, line) for guest, line in enumerate(text.split("\n"))]
    try:
        need_wishes(wishes)
    except BadWishes:
        raise NoNote("what is written there are no wishes") from None
    return wishes

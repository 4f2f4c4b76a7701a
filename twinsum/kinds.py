"""What a whole number, a row and a place are, and the refusals of what is none."""

from twinsum.errors import NoPlace, NoRow

LONGEST_ROW = 40
SIGNS = "abcdefghijklmnopqrstuvwxyz0123456789 "


def is_whole(thing):
    """Tell whether a thing of any kind is a whole number."""
    # Python counts True and False among the integers; the program does not.
    return isinstance(thing, int) and not isinstance(thing, bool)


def is_row(thing):
    """Tell whether a thing of any kind is a row."""
    if not isinstance(thing, str) or len(thing) > LONGEST_ROW:
        return False
    return all([sign in SIGNS for sign in thing])


def check_row(thing):
    """Refuse a thing of any kind that is no row."""
    if not is_row(thing):
        raise NoRow("a row is a text of 0 to 40 signs: a to z, 0 to 9, blanks")


def check_place(thing, count):
    """Refuse a thing of any kind that is no place of so many rows."""
    if not is_whole(thing) or not 0 <= thing < count:
        raise NoPlace("a place is a whole number from 0 below the count of the rows")

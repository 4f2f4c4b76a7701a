"""What a whole number is, and what a row is."""

LONGEST_ROW = 40
SIGNS = "abcdefghijklmnopqrstuvwxyz0123456789 "


def is_whole(thing):
    """Tell whether a thing of any kind is a whole number."""
    # Python counts True and False among the integers; the program does not.
    return isinstance(thing, int) and not isinstance(thing, bool)


def is_row(thing):
    """Tell whether a thing of any kind is a row."""
    if not isinstance(thing, str) or len(thing) > LONGEST_ROW:
        return False
    return all([sign in SIGNS for sign in thing])

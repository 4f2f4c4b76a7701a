"""The errors that the program raises."""


class TwinError(ValueError):
    """Whatever the program refuses."""


class NoRow(TwinError):
    """What should be a row is none."""


class NoSum(TwinError):
    """What should be a sum that a ledger gave out is none."""


class NoPlace(TwinError):
    """What should be a place is none."""


class NoBlock(TwinError):
    """A book has no such block."""


class Full(TwinError):
    """A book has no room for more rows."""


class Strange(TwinError):
    """Two books were made of two ledgers."""

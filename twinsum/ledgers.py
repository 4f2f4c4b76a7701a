"""The ledger, which gives out sums."""

from twinsum.errors import NoSum
from twinsum.kinds import check_row, is_whole


class Ledger:
    """Gives out the sums 0, 1, 2 .. of rows and of pairs of sums."""

    def __init__(self):
        # A row is a text and a pair is a tuple: as keys they are never the same.
        self._sums = {}
        self._told = []

    def of_row(self, row):
        """Tell the sum of a row, a new one if it has none yet."""
        check_row(row)
        return self._sum_of(row)

    def of_pair(self, one, other):
        """Tell the sum of two sums in their order, a new one if they have none yet."""
        if not self._gave_out(one) or not self._gave_out(other):
            raise NoSum("a pair is of two sums that this ledger gave out")
        return self._sum_of((one, other))

    def what(self, number):
        """Tell the row, or the two sums, of which a number is the sum."""
        if not self._gave_out(number):
            raise NoSum("this ledger gave out no such sum")
        return self._told[number]

    def many(self):
        """Tell how many sums were given out."""
        return len(self._told)

    def _gave_out(self, thing):
        return is_whole(thing) and 0 <= thing < len(self._told)

    def _sum_of(self, thing):
        if thing not in self._sums:
            self._sums[thing] = len(self._told)
            self._told.append(thing)
        return self._sums[thing]

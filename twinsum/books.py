"""The book: rows, and the sums of their blocks."""

from twinsum.blocks import blocks_at
from twinsum.errors import Full, NoBlock, NoPlace
from twinsum.kinds import check_place, check_row, is_whole

MOST_ROWS = 1024


class Book:
    """A list of rows, of which each block's sum is kept."""

    def __init__(self, ledger, rows):
        # All is checked ahead: for a book that is refused the ledger gives out nothing.
        for row in rows:
            check_row(row)
        if len(rows) > MOST_ROWS:
            raise Full("a book has up to 1024 rows")
        self.ledger = ledger
        self._rows = []
        # By height and number, as the book has them at present.
        self._sums = {}
        for row in rows:
            self.add(row)

    def put(self, place, row):
        """Let a row stand at a place; tell how many blocks have the place."""
        check_place(place, self.count())
        check_row(row)
        self._rows[place] = row
        return self._sum_up(place)

    def add(self, row):
        """Add a row behind all; tell how many blocks come with it."""
        check_row(row)
        if self.count() == MOST_ROWS:
            raise Full("a book has up to 1024 rows")
        self._rows.append(row)
        # The blocks that come are those that end with the new row: all that have it.
        return self._sum_up(self.count() - 1)

    def cut(self):
        """Take the last row away; tell how many blocks go with it."""
        if self.count() == 0:
            raise NoPlace("a book without rows has none to cut")
        gone = blocks_at(self.count(), self.count() - 1)
        self._rows.pop()
        for block in gone:
            del self._sums[block]
        return len(gone)

    def count(self):
        """Tell how many rows there are."""
        return len(self._rows)

    def row(self, place):
        """Tell the row at a place."""
        check_place(place, self.count())
        return self._rows[place]

    def rows(self):
        """Tell all rows, as a new list."""
        return list(self._rows)

    def sum_of(self, height, number):
        """Tell the sum of a block that the book has."""
        # Ahead of the look-up, since Python finds True where 1 is kept.
        if not is_whole(height) or not is_whole(number) or (height, number) not in self._sums:
            raise NoBlock("the book has no such block")
        return self._sums[(height, number)]

    def _sum_up(self, place):
        """Ask for the sums of the blocks that have a place, from below; tell how many."""
        blocks = blocks_at(self.count(), place)
        for height, number in blocks:
            self._sums[(height, number)] = self._asked(height, number)
        return len(blocks)

    def _asked(self, height, number):
        if height == 0:
            return self.ledger.of_row(self._rows[number])
        left = self.sum_of(height - 1, 2 * number)
        right = self.sum_of(height - 1, 2 * number + 1)
        return self.ledger.of_pair(left, right)

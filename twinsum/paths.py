"""The path of a place, and what a row with a path comes to."""

from twinsum.blocks import blocks_at
from twinsum.kinds import check_place, check_row


def path(book, place):
    """Tell the sums of the other halves, from below, of the blocks that have a place."""
    check_place(place, book.count())
    # The greatest block is half of none that the book has.
    halves = blocks_at(book.count(), place)[:-1]
    # Of two halves the left has an even number, and the right the odd one behind it.
    return [book.sum_of(height, number ^ 1) for height, number in halves]


def come_to(ledger, row, place, path):
    """Tell the sum to which a row at a place comes with a path."""
    check_row(row)
    for number in path:
        # Ahead of all sums: for a path that is refused the ledger gives out nothing.
        ledger.what(number)
    so_far = ledger.of_row(row)
    for height, number in enumerate(path):
        if (place >> height) & 1 == 1:
            so_far = ledger.of_pair(number, so_far)
        else:
            so_far = ledger.of_pair(so_far, number)
    return so_far

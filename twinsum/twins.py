"""Two books compared, and the moves from one to the other."""

from twinsum.blocks import parted
from twinsum.errors import Strange


class Looking:
    """Two books of one ledger, and the looks at them so far."""

    def __init__(self, one, other):
        # A ledger is the same as itself only, whatever another one gave out.
        if one.ledger != other.ledger:
            raise Strange("the two books were made of two ledgers")
        self._one = one
        self._other = other
        self.looks = []

    def alike(self, height, number):
        """Look at a block that both books have; tell whether it is alike."""
        same = self._one.sum_of(height, number) == self._other.sum_of(height, number)
        self.looks.append((height, number, same))
        return same

    def first_in(self, height, number):
        """Tell the first place of a block that is not alike at which the books differ."""
        for below in reversed(range(height)):
            number = 2 * number
            if self.alike(below, number):
                # So the right half is not alike, which needs no look.
                number = number + 1
        return number

    def all_in(self, height, number):
        """Tell all places of a block that is not alike at which the books differ."""
        if height == 0:
            return [number]
        left = 2 * number
        right = left + 1
        if self.alike(height - 1, left):
            # So the right half is not alike, which needs no look.
            return self.all_in(height - 1, right)
        places = self.all_in(height - 1, left)
        if self.alike(height - 1, right):
            return places
        return places + self.all_in(height - 1, right)


def first_unlike(one, other):
    """Tell the first place at which two books differ, or None, and the looks."""
    looking = Looking(one, other)
    lesser = min(one.count(), other.count())
    for height, number in parted(lesser):
        if not looking.alike(height, number):
            return looking.first_in(height, number), looking.looks
    if one.count() == other.count():
        return None, looking.looks
    return lesser, looking.looks


def all_unlike(one, other):
    """Tell all places below the lesser count at which two books differ, and the looks."""
    looking = Looking(one, other)
    places = []
    for height, number in parted(min(one.count(), other.count())):
        if not looking.alike(height, number):
            places.extend(looking.all_in(height, number))
    return places, looking.looks


def moves(one, other):
    """Tell the fewest deeds that make the rows of one book those of the other."""
    places, _ = all_unlike(one, other)
    puts = [("put", place, other.row(place)) for place in places]
    adds = [("add", other.row(place)) for place in range(one.count(), other.count())]
    cuts = [("cut",) for _ in range(other.count(), one.count())]
    return puts + adds + cuts


def made(book, moves):
    """Do moves to a book, one behind the other."""
    for move in moves:
        match move:
            case ("put", place, row):
                book.put(place, row)
            case ("add", row):
                book.add(row)
            case ("cut",):
                book.cut()

"""What several tests need: things of other kinds, ledgers that note, and plain rows to compare with."""

from twinsum.ledgers import Ledger


class Odd:
    """An object that says that it is the same as anything."""

    def __eq__(self, other):
        return True

    def __hash__(self):
        return 0


NEITHER = (
    None, 0.0, 1.0, 0.5, float("nan"), 1j, b"", b"a", b"0", bytearray(b"a"),
    [], [0], ["a"], [0, 1], (), (0,), ("a",), (0, 1), {}, {"a": 1}, set(), {0},
    frozenset(), range(2), object(), Odd(), int, str, len, iter("a"),
)
NO_INTEGERS = NEITHER + (True, False, "", "0", "1", "a", " ")
NO_TEXTS = NEITHER + (True, False, 0, 1, -1, 10 ** 30)
NO_ROWS = NO_TEXTS + ("a" * 41, " " * 41, "A", "aB", "a\n", "\ta", "a-b", "a_b", "~", "a" * 40 + "\n")

FEW = tuple(range(41))
GREATER = (62, 63, 64, 65, 66, 510, 511, 512, 513, 514, 1022, 1023, 1024)
COUNTS = FEW + GREATER


class NotingLedger(Ledger):
    """A ledger that notes each sum it is asked for, one that it gave out before too."""

    def __init__(self):
        super().__init__()
        self.asked = []

    def of_row(self, row):
        told = super().of_row(row)
        self.asked.append(row)
        return told

    def of_pair(self, one, other):
        told = super().of_pair(one, other)
        self.asked.append((one, other))
        return told


def told_by(ledger):
    """All that a ledger gave out a sum of, in its order."""
    return [ledger.what(number) for number in range(ledger.many())]


def some_rows(count, mark=""):
    """So many rows, no two of them the same."""
    return [f"row {place}{mark}" for place in range(count)]


def some_places(count):
    """All places of few rows; of more rows those near the ends, the middle and the edges of blocks."""
    if count <= 66:
        return list(range(count))
    near = [edge + by for edge in (0, 64, 256, 512, 768, count // 2, count) for by in (-2, -1, 0, 1)]
    return sorted({place for place in near if 0 <= place < count})


def places_of(height, number):
    """The places of a block."""
    return range(number * 2 ** height, (number + 1) * 2 ** height)


def whole_blocks(count):
    """All blocks that a book of so many rows has, as tuples (height, number)."""
    return [(height, number) for height in range(12) for number in range(count + 1)
            if (number + 1) * 2 ** height <= count]


class PlainSums:
    """What a ledger should give out, kept by a dict."""

    def __init__(self):
        self.sums = {}

    def ask(self, thing):
        return self.sums.setdefault(thing, len(self.sums))

    def of_rows(self, rows):
        """The sum of a block of these rows, 2 ** h of them."""
        if len(rows) == 1:
            return self.ask(rows[0])
        half = len(rows) // 2
        return self.ask((self.of_rows(rows[:half]), self.of_rows(rows[half:])))

    def of_block(self, rows, height, number):
        """The sum of a block of a book of these rows."""
        around = places_of(height, number)
        return self.of_rows(rows[around.start:around.stop])

    def of_place(self, rows, place):
        """Ask for the sums of all blocks of a book of these rows that have a place; how many there are."""
        many = 0
        for height in range(12):
            if places_of(height, place >> height).stop <= len(rows):
                self.of_block(rows, height, place >> height)
                many += 1
        return many

    def made(self, rows):
        """Ask for what making a book of these rows asks for."""
        for count in range(1, len(rows) + 1):
            self.of_place(rows[:count], count - 1)

    def told(self):
        return list(self.sums)


def parts_by_size(count):
    """The parts of a count, as tuples (height, first place)."""
    parts = []
    start = 0
    for height in reversed(range(12)):
        if count - start >= 2 ** height:
            parts.append((height, start))
            start += 2 ** height
    return parts


class PlainLooks:
    """Two lists of rows, looked at as point 7 and point 9 say, row by row instead of by sums."""

    def __init__(self, one, other):
        self.one = one
        self.other = other
        self.lesser = min(len(one), len(other))
        self.looks = []

    def alike(self, height, start):
        stop = start + 2 ** height
        same = self.one[start:stop] == self.other[start:stop]
        self.looks.append((height, start // 2 ** height, same))
        return same

    def first(self):
        """The first place at which they differ, or None, and the looks."""
        for height, start in parts_by_size(self.lesser):
            if self.alike(height, start):
                continue
            while height > 0:
                height -= 1
                if self.alike(height, start):
                    start += 2 ** height
            return start, self.looks
        return (None if len(self.one) == len(self.other) else self.lesser), self.looks

    def all(self):
        """All places below the lesser count at which they differ, and the looks."""
        for height, start in parts_by_size(self.lesser):
            if not self.alike(height, start):
                self.into(height, start)
        places = [place for place in range(self.lesser) if self.one[place] != self.other[place]]
        return places, self.looks

    def into(self, height, start):
        if height > 0:
            right = start + 2 ** (height - 1)
            known = self.alike(height - 1, start)
            if not known:
                self.into(height - 1, start)
            if known or not self.alike(height - 1, right):
                self.into(height - 1, right)


def plain_moves(one, other):
    """The moves from one list of rows to another."""
    told = [("put", place, row) for place, (old, row) in enumerate(zip(one, other)) if old != row]
    told += [("add", row) for row in other[len(one):]]
    return told + [("cut",)] * (len(one) - len(other))


def plain_path(sums, rows, place):
    """The path of a place in a book of these rows."""
    told = []
    for height in range(11):
        if places_of(height + 1, place >> (height + 1)).stop > len(rows):
            break
        mine = place >> height
        told.append(sums.of_block(rows, height, mine + 1 if mine % 2 == 0 else mine - 1))
    return told

"""The whole document: two books of one ledger, drawn deeds by turns, and plain rows kept beside."""

import random
import unittest

from tests.things import NotingLedger, PlainLooks, PlainSums, plain_moves, plain_path, told_by, whole_blocks
from twinsum.books import Book
from twinsum.errors import Full, NoBlock, NoPlace, NoRow
from twinsum.paths import come_to, path
from twinsum.twins import all_unlike, first_unlike, made, moves


class Beside:
    """Two books of one ledger, and beside them plain rows and plain sums."""

    def __init__(self, test, draw, counts):
        self.test = test
        self.draw = draw
        self.ledger = NotingLedger()
        self.sums = PlainSums()
        self.rows = []
        self.books = []
        for count in counts:
            self.rows.append([self.row() for _ in range(count)])
            self.books.append(Book(self.ledger, self.rows[-1]))
            self.sums.made(self.rows[-1])

    def row(self):
        return self.draw.choice(["", " ", "a", "b", "a b", "0 1", "row", "z" * 40])

    def put(self, which):
        rows = self.rows[which]
        if rows:
            place, row = self.draw.randrange(len(rows)), self.row()
            rows[place] = row
            self.test.assertEqual(self.books[which].put(place, row), self.sums.of_place(rows, place))
        else:
            self.refused(NoPlace, self.books[which].put, 0, "a")

    def add(self, which):
        rows, row = self.rows[which], self.row()
        if len(rows) < 1024:
            rows.append(row)
            self.test.assertEqual(self.books[which].add(row), self.sums.of_place(rows, len(rows) - 1))
        else:
            self.refused(Full, self.books[which].add, row)

    def cut(self, which):
        rows = self.rows[which]
        if rows:
            told = self.books[which].cut()
            gone = sum((len(rows) >> height) - ((len(rows) - 1) >> height) for height in range(12))
            self.test.assertEqual(told, gone)
            rows.pop()
        else:
            self.refused(NoPlace, self.books[which].cut)

    def same(self, which):
        rows = self.rows[which]
        if rows:
            place = self.draw.randrange(len(rows))
            self.test.assertEqual(self.books[which].put(place, rows[place]), self.sums.of_place(rows, place))

    def wrong(self, which):
        book, count = self.books[which], len(self.rows[which])
        self.refused(NoPlace, book.put, self.draw.choice([-1, count, count + 1, True, None, "0"]), "new row")
        self.refused(NoPlace, book.row, self.draw.choice([-1, count, count + 1, False, None, "0"]))
        self.refused(NoRow, book.add, self.draw.choice(["A", "a" * 41, None, 0, True]))
        self.refused(NoBlock, book.sum_of, self.draw.choice([count.bit_length(), -1, True, None, 2 ** 70]), 0)
        if count:
            self.refused(NoRow, book.put, 0, self.draw.choice(["A", "a" * 41, None, 0, True]))

    def make(self, which):
        """Make one book's rows the other's."""
        one, other = self.rows[which], self.rows[1 - which]
        deeds = plain_moves(one, other)
        self.test.assertIsNone(made(self.books[which], moves(self.books[which], self.books[1 - which])))
        for deed in deeds:
            if deed[0] == "put":
                one[deed[1]] = deed[2]
                self.sums.of_place(one, deed[1])
            elif deed[0] == "add":
                one.append(deed[1])
                self.sums.of_place(one, len(one) - 1)
            else:
                one.pop()

    def step(self):
        """One deed, drawn, done to one of the two books."""
        deeds = [self.put, self.put, self.add, self.add, self.cut, self.same, self.wrong]
        deed = self.draw.choice(deeds * 5 + [self.make])
        deed(self.draw.randrange(2))

    def refused(self, error, deed, *things):
        with self.test.assertRaises(error):
            deed(*things)

    def answers(self):
        """All answers are those of the plain rows; nothing is asked of the ledger for them."""
        test, books, rows = self.test, self.books, self.rows
        self.ledger.asked.clear()
        test.assertEqual([book.rows() for book in books], rows)
        test.assertEqual([book.count() for book in books], [len(one) for one in rows])
        for one, other in ((0, 1), (1, 0)):
            looks = PlainLooks(rows[one], rows[other]), PlainLooks(rows[one], rows[other])
            test.assertEqual(first_unlike(books[one], books[other]), looks[0].first())
            test.assertEqual(all_unlike(books[one], books[other]), looks[1].all())
            test.assertEqual(moves(books[one], books[other]), plain_moves(rows[one], rows[other]))
        for book, plain in zip(books, rows):
            self.answers_of(book, plain)
        test.assertEqual(self.ledger.asked, [])

    def answers_of(self, book, plain):
        blocks = whole_blocks(len(plain)) if len(plain) <= 64 else [(0, 0), (0, len(plain) - 1), (5, 1), (6, 0)]
        for block in blocks:
            self.test.assertEqual(book.sum_of(*block), self.sums.of_block(plain, *block))
        places = range(len(plain)) if len(plain) <= 64 else self.draw.sample(range(len(plain)), 5)
        for place in places:
            self.test.assertEqual(path(book, place), plain_path(self.sums, plain, place))
            self.test.assertEqual(book.row(place), plain[place])

    def ledgers_agree(self):
        """What was given out, and in which order, is what the deeds asked for."""
        self.test.assertEqual(told_by(self.ledger), self.sums.told())

    def rows_come_to_blocks(self):
        """A row with its path comes to a sum that the ledger has, and no other row does."""
        many = self.ledger.many()
        for book, plain in zip(self.books, self.rows):
            for place in range(min(len(plain), 20)):
                ours = path(book, place)
                whole = book.sum_of(len(ours), place >> len(ours))
                self.test.assertEqual(come_to(self.ledger, plain[place], place, ours), whole)
        self.test.assertEqual(self.ledger.many(), many)


class Whole(unittest.TestCase):
    def drawn(self, seed, counts, steps):
        beside = Beside(self, random.Random(seed), counts)
        beside.ledgers_agree()
        for _ in range(steps):
            beside.step()
            beside.answers()
        beside.ledgers_agree()
        beside.rows_come_to_blocks()

    def test_two_books_from_no_rows(self):
        for seed in range(12):
            with self.subTest(seed):
                self.drawn(seed, (0, 0), 120)

    def test_two_books_of_few_rows(self):
        for seed in range(12):
            with self.subTest(seed):
                self.drawn(seed, (seed, 20 - seed), 60)

    def test_two_books_near_64_512_and_1024_rows(self):
        for counts in ((63, 64), (511, 512), (1023, 1024), (1024, 1024), (1024, 3)):
            with self.subTest(counts):
                self.drawn(sum(counts), counts, 25)

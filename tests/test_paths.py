"""Point 11, and the interface's paragraph of twinsum/paths.py."""

import copy
import unittest

from tests.things import (COUNTS, FEW, NO_INTEGERS, NO_ROWS, NotingLedger, PlainSums, places_of, plain_path,
                          some_places, some_rows, told_by, whole_blocks)
from twinsum import paths
from twinsum.books import Book
from twinsum.errors import NoPlace, NoRow, NoSum
from twinsum.ledgers import Ledger
from twinsum.paths import come_to, path


def greatest(book, place):
    """The sum of the greatest of the book's blocks that has the place."""
    return book.sum_of(*max(block for block in whole_blocks(book.count()) if place in places_of(*block)))


class Interface(unittest.TestCase):
    def test_the_functions_stand_in_their_file(self):
        self.assertEqual(path.__module__, "twinsum.paths")
        self.assertEqual(come_to.__module__, "twinsum.paths")

    def test_the_names_of_the_arguments(self):
        ledger = Ledger()
        book = Book(ledger, ["a", "b"])
        self.assertEqual(paths.path(book=book, place=1), [0])
        self.assertEqual(paths.come_to(ledger=ledger, row="b", place=1, path=[0]), 2)


class Path(unittest.TestCase):
    def test_the_paths_of_five_rows(self):
        ledger = Ledger()
        book = Book(ledger, ["a", "b", "c", "d", "e"])
        self.assertEqual(told_by(ledger), ["a", "b", (0, 1), "c", "d", (3, 4), (2, 5), "e"])
        self.assertEqual([path(book, place) for place in range(5)], [[1, 5], [0, 5], [4, 2], [3, 2], []])

    def test_one_row(self):
        self.assertEqual(path(Book(Ledger(), ["a"]), 0), [])

    def test_all_places_of_few_rows_and_some_of_greater_ones(self):
        for count in COUNTS + (100, 700, 1000):
            for rows in (some_rows(count), [f"{place % 3}" for place in range(count)]):
                ledger, sums = Ledger(), PlainSums()
                book = Book(ledger, rows)
                sums.made(rows)
                for place in some_places(count):
                    told = path(book, place)
                    self.assertEqual(told, plain_path(sums, rows, place), (count, place))
                    self.assertIs(type(told), list)
                    self.assertEqual({type(one) for one in told} - {int}, set())
                self.assertEqual(ledger.many(), len(sums.told()))

    def test_behind_put_add_and_cut(self):
        ledger = Ledger()
        book = Book(ledger, ["a", "b", "c"])
        self.assertEqual([path(book, place) for place in range(3)], [[1], [0], []])
        book.put(0, "c")
        self.assertEqual([path(book, place) for place in range(3)], [[1], [3], []])
        book.add("a")
        self.assertEqual(told_by(ledger), ["a", "b", (0, 1), "c", (3, 1), (3, 0), (4, 5)])
        self.assertEqual([path(book, place) for place in range(4)], [[1, 5], [3, 5], [0, 4], [3, 4]])
        book.cut(), book.cut()
        self.assertEqual([path(book, place) for place in range(2)], [[1], [3]])

    def test_what_is_no_place_is_refused(self):
        for count in (0, 1, 5, 8):
            ledger = NotingLedger()
            book = Book(ledger, some_rows(count))
            ledger.asked.clear()
            for place in (-1, -2, -count, -count - 1, count, count + 1, 1024, 2 ** 64, 2 ** 70) + NO_INTEGERS:
                if place != 0 or type(place) is not int:
                    with self.subTest(repr(place)):
                        with self.assertRaises(NoPlace) as caught:
                            path(book, place)
                        self.assertIs(type(caught.exception), NoPlace)
            self.assertEqual(ledger.asked, [])
            self.assertEqual(book.rows(), some_rows(count))

    def test_a_place_refused_is_told_once_a_row_stands_there(self):
        book = Book(Ledger(), [])
        for count in range(9):
            with self.assertRaises(NoPlace):
                path(book, count)
            book.add("a")
            path(book, count)

    def test_nothing_is_asked_for(self):
        ledger = NotingLedger()
        book = Book(ledger, some_rows(37))
        ledger.asked.clear()
        for place in range(37):
            path(book, place)
        self.assertEqual(ledger.asked, [])

    def test_the_list_told_is_the_askers_own(self):
        book = Book(Ledger(), some_rows(8))
        told = path(book, 3)
        kept = list(told)
        again = path(book, 3)
        again.append("more")
        again[0] = None
        self.assertEqual(told, kept)
        book.put(2, "x"), book.cut(), path(book, 3)
        self.assertEqual(told, kept)


class ComeTo(unittest.TestCase):
    def test_the_order_of_the_halves(self):
        for place, asked in ((0, ["x", (2, 0), (3, 1)]), (1, ["x", (0, 2), (3, 1)]),
                             (2, ["x", (2, 0), (1, 3)]), (3, ["x", (0, 2), (1, 3)])):
            ledger = NotingLedger()
            ledger.of_row("a"), ledger.of_row("b")
            ledger.asked.clear()
            self.assertEqual(come_to(ledger, "x", place, [0, 1]), 4)
            self.assertEqual(ledger.asked, asked)

    def test_a_row_with_its_path_comes_to_the_greatest_block(self):
        for count in COUNTS + (100, 700, 1000):
            ledger = Ledger()
            book = Book(ledger, some_rows(count))
            many = ledger.many()
            for place in some_places(count):
                told = come_to(ledger, book.row(place), place, path(book, place))
                self.assertIs(type(told), int)
                self.assertEqual(told, greatest(book, place), (count, place))
            self.assertEqual(ledger.many(), many)

    def test_another_row_comes_to_another_sum(self):
        for count in FEW:
            ledger = Ledger()
            book = Book(ledger, some_rows(count))
            for place in range(count):
                for row in some_rows(count) + ["", "x"]:
                    if row != book.row(place):
                        told = come_to(ledger, row, place, path(book, place))
                        self.assertNotEqual(told, greatest(book, place))

    def test_another_sum_in_the_path_comes_to_another_sum(self):
        for count in (2, 4, 7, 8, 16, 31):
            ledger = Ledger()
            book = Book(ledger, some_rows(count))
            sums = ledger.many()
            for place in range(count):
                ours = path(book, place)
                for at in range(len(ours)):
                    for other in range(sums):
                        if other != ours[at]:
                            told = come_to(ledger, book.row(place), place, ours[:at] + [other] + ours[at + 1:])
                            self.assertNotEqual(told, greatest(book, place))

    def test_a_path_too_long_or_too_short_by_one_comes_to_another_sum(self):
        for count in (1, 2, 5, 8, 13, 16):
            ledger = Ledger()
            book = Book(ledger, some_rows(count))
            sums = ledger.many()
            for place in range(count):
                ours = path(book, place)
                for more in range(sums):
                    self.assertNotEqual(come_to(ledger, book.row(place), place, ours + [more]), greatest(book, place))
                if ours:
                    self.assertNotEqual(come_to(ledger, book.row(place), place, ours[:-1]), greatest(book, place))

    def test_a_path_too_long_by_one(self):
        ledger = Ledger()
        book = Book(ledger, ["a", "b", "c"])
        self.assertEqual(come_to(ledger, "b", 1, path(book, 1) + [3]), 4)
        self.assertEqual(ledger.what(4), (2, 3))
        self.assertEqual(come_to(ledger, "c", 2, path(book, 2) + [3]), 5)
        self.assertEqual(ledger.what(5), (3, 3))

    def test_another_place(self):
        ledger = Ledger()
        book = Book(ledger, ["a", "b", "c", "d"])
        ours = path(book, 1)
        self.assertEqual(come_to(ledger, "b", 1, ours), book.sum_of(2, 0))
        told = [come_to(ledger, "b", place, ours) for place in (0, 2, 3)]
        self.assertEqual(len({book.sum_of(2, 0), *told}), 4)
        # Of a place no more counts than the path is long.
        self.assertEqual(come_to(ledger, "b", 5, ours), book.sum_of(2, 0))
        self.assertEqual(come_to(ledger, "b", 2 ** 70 + 1, ours), book.sum_of(2, 0))

    def test_the_empty_path_gives_the_rows_sum(self):
        ledger = Ledger()
        for place in (0, 1, 2, 3, 1024, 2 ** 70):
            self.assertEqual(come_to(ledger, "a", place, []), 0)
        self.assertEqual(come_to(ledger, "b", 0, []), 1)
        self.assertEqual(told_by(ledger), ["a", "b"])

    def test_a_long_path(self):
        ledger = Ledger()
        ledger.of_row("a"), ledger.of_row("b")
        self.assertEqual(come_to(ledger, "a", 0b101, [1] * 40), 41)
        self.assertEqual([ledger.what(number) for number in range(2, 7)], [(1, 0), (2, 1), (1, 3), (4, 1), (5, 1)])

    def test_the_path_handed_in_stays_as_it_is(self):
        ledger = Ledger()
        book = Book(ledger, some_rows(8))
        ours = path(book, 5)
        kept = list(ours)
        come_to(ledger, "row 5", 5, ours)
        come_to(ledger, "x", 2, ours)
        self.assertEqual(ours, kept)
        wrong = kept + [None, [1]]
        with self.assertRaises(NoSum):
            come_to(ledger, "row 5", 5, wrong)
        self.assertEqual(wrong, kept + [None, [1]])


class Refusals(unittest.TestCase):
    def refused(self, error, ledger, row, place, numbers):
        many = ledger.many()
        kept = copy.copy(numbers)
        with self.assertRaises(error) as caught:
            come_to(ledger, row, place, numbers)
        self.assertIs(type(caught.exception), error)
        self.assertEqual(ledger.many(), many)
        self.assertTrue(all(one is other for one, other in zip(numbers, kept)) and len(numbers) == len(kept))

    def test_what_is_no_row_is_refused(self):
        ledger = Ledger()
        book = Book(ledger, some_rows(4))
        for bad in NO_ROWS:
            with self.subTest(repr(bad)):
                for place in (0, 1, 3, 100):
                    self.refused(NoRow, ledger, bad, place, [])
                    self.refused(NoRow, ledger, bad, place, path(book, 2))

    def test_what_is_no_sum_of_the_ledger_is_refused(self):
        ledger = Ledger()
        Book(ledger, some_rows(4))
        self.assertEqual(ledger.many(), 7)
        for bad in (7, 8, -1, -7, -8, 100, 2 ** 64, 10 ** 40) + NO_INTEGERS:
            with self.subTest(repr(bad)):
                for row in ("row 0", "row 3", "a new row"):
                    for place in (0, 1, 2, 3):
                        self.refused(NoSum, ledger, row, place, [bad])
                        self.refused(NoSum, ledger, row, place, [bad, 2])
                        self.refused(NoSum, ledger, row, place, [1, bad])
                        self.refused(NoSum, ledger, row, place, [1, 5, bad])

    def test_no_row_goes_ahead_of_no_sum(self):
        ledger = Ledger()
        Book(ledger, some_rows(4))
        for row in ("A", None, 0, True, "a" * 41):
            for bad in (7, -1, None, True, "a", [0]):
                self.refused(NoRow, ledger, row, 0, [bad])
                self.refused(NoRow, ledger, row, 1, [0, bad])

    def test_a_sum_of_another_ledger_is_none(self):
        book = Book(Ledger(), some_rows(8))
        self.refused(NoSum, Ledger(), "row 0", 0, path(book, 0))

    def test_a_number_is_taken_once_it_was_given_out(self):
        ledger = Ledger()
        ledger.of_row("a")
        self.refused(NoSum, ledger, "a", 0, [1])
        ledger.of_row("b")
        self.assertEqual(come_to(ledger, "a", 0, [1]), 2)

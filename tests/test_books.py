"""Points 4 and 6, the interface's paragraph of twinsum/books.py, and what points 1, 2 and 3 say of them."""

import copy
import unittest

from tests.things import (COUNTS, FEW, NO_INTEGERS, NO_ROWS, NotingLedger, PlainSums, places_of, some_places,
                          some_rows, told_by, whole_blocks)
from twinsum.books import Book
from twinsum.errors import Full, NoBlock, NoPlace, NoRow
from twinsum.ledgers import Ledger


class BookTest(unittest.TestCase):
    def holds(self, book, rows):
        """The book has these rows, and each sum of a block of them."""
        self.assertEqual(book.rows(), rows)
        self.assertEqual(book.count(), len(rows))
        self.assertIs(type(book.count()), int)
        self.assertEqual([book.row(place) for place in range(len(rows))], rows)

    def refused(self, error, book, deed, *things):
        """The deed is refused with this very error; it changes nothing and gives out nothing."""
        ledger = book.ledger
        rows, many = book.rows(), ledger.many()
        sums = [book.sum_of(0, place) for place in range(book.count())]
        with self.assertRaises(error) as caught:
            deed(*things)
        self.assertIs(type(caught.exception), error)
        self.holds(book, rows)
        self.assertEqual([book.sum_of(0, place) for place in range(book.count())], sums)
        self.assertEqual(ledger.many(), many)


class Interface(BookTest):
    def test_the_class_stands_in_its_file(self):
        self.assertEqual(Book.__module__, "twinsum.books")

    def test_each_method_stands_in_the_class_itself(self):
        for name in ("put", "add", "cut", "count", "row", "rows", "sum_of"):
            self.assertIn(name, vars(Book))

    def test_the_names_of_the_arguments(self):
        book = Book(ledger=Ledger(), rows=["a", "b"])
        self.assertEqual(book.put(place=1, row="c"), 2)
        self.assertEqual(book.add(row="d"), 1)
        self.assertEqual(book.row(place=2), "d")
        self.assertEqual(book.sum_of(height=0, number=2), 5)


class Making(BookTest):
    def test_no_rows(self):
        ledger = Ledger()
        book = Book(ledger, [])
        self.holds(book, [])
        self.assertEqual(ledger.many(), 0)

    def test_the_order_in_the_ledger(self):
        ledger = Ledger()
        book = Book(ledger, ["a", "b", "c", "d", "e", "f"])
        self.holds(book, ["a", "b", "c", "d", "e", "f"])
        self.assertEqual(told_by(ledger), ["a", "b", (0, 1), "c", "d", (3, 4), (2, 5), "e", "f", (7, 8)])

    def test_the_order_in_the_ledger_where_rows_are_the_same(self):
        ledger = Ledger()
        Book(ledger, ["a", "a", "a", "a", "b", "a"])
        self.assertEqual(told_by(ledger), ["a", (0, 0), (1, 1), "b", (3, 0)])

    def test_each_row_and_then_the_blocks_that_end_with_it(self):
        for count in COUNTS:
            for rows in (some_rows(count), [f"{place % 3}" for place in range(count)], ["a"] * count):
                ledger, sums = Ledger(), PlainSums()
                book = Book(ledger, rows)
                sums.made(rows)
                self.assertEqual(told_by(ledger), sums.told(), count)
                self.assertEqual(book.rows(), rows)
                self.assertEqual(book.count(), count)

    def test_no_sum_is_asked_for_twice_in_making(self):
        for count in COUNTS:
            ledger = NotingLedger()
            Book(ledger, some_rows(count))
            self.assertEqual(ledger.asked, told_by(ledger), count)
            self.assertEqual(len(ledger.asked), len(whole_blocks(count)), count)

    def test_a_second_book_of_the_same_rows_gets_the_same_sums(self):
        ledger = Ledger()
        one = Book(ledger, some_rows(21))
        ahead = told_by(ledger)
        other = Book(ledger, some_rows(21))
        self.assertEqual(told_by(ledger), ahead)
        for height, number in whole_blocks(21):
            self.assertEqual(one.sum_of(height, number), other.sum_of(height, number))

    def test_a_ledger_that_gave_out_sums_before(self):
        ledger = Ledger()
        ledger.of_row("b"), ledger.of_pair(0, 0)
        Book(ledger, ["a", "b"])
        self.assertEqual(told_by(ledger), ["b", (0, 0), "a", (2, 0)])

    def test_the_list_handed_in_stays_as_it_is_and_may_be_changed_behind(self):
        rows = some_rows(13)
        ledger = Ledger()
        book = Book(ledger, rows)
        self.assertEqual(rows, some_rows(13))
        many = ledger.many()
        rows.append("more")
        rows[0] = "other"
        del rows[5:9]
        self.holds(book, some_rows(13))
        self.assertEqual(ledger.many(), many)
        self.assertEqual(book.add("last"), 2)
        self.assertEqual(rows[-1], "more")
        self.holds(book, some_rows(13) + ["last"])

    def test_two_books_of_one_list_know_nothing_of_each_other(self):
        ledger, rows = Ledger(), some_rows(6)
        one, other = Book(ledger, rows), Book(ledger, rows)
        one.put(0, "x"), one.cut(), one.cut()
        self.holds(one, ["x"] + some_rows(4)[1:])
        self.holds(other, some_rows(6))
        self.assertEqual(rows, some_rows(6))

    def refused_to_make(self, error, rows):
        ledger = Ledger()
        ledger.of_row("first")
        ahead = list(rows)
        with self.assertRaises(error) as caught:
            Book(ledger, rows)
        self.assertIs(type(caught.exception), error)
        self.assertEqual(ledger.many(), 1)
        self.assertEqual(ledger.of_row("new"), 1)
        self.assertTrue(all(one is other for one, other in zip(rows, ahead)) and len(rows) == len(ahead))

    def test_a_row_that_is_none_is_refused(self):
        for bad in NO_ROWS:
            with self.subTest(repr(bad)):
                self.refused_to_make(NoRow, [bad])
                for place in (0, 1, 3, 4):
                    self.refused_to_make(NoRow, some_rows(place) + [bad] + some_rows(4 - place))

    def test_more_than_1024_rows_are_refused(self):
        for count in (1025, 1026, 1500, 2048, 5000):
            with self.subTest(count):
                self.refused_to_make(Full, some_rows(count))
                self.refused_to_make(Full, ["a"] * count)

    def test_no_row_goes_ahead_of_full(self):
        for place in (0, 1, 700, 1023, 1024, 1025, 1500):
            for bad in ("A", None, 0, "a" * 41):
                rows = some_rows(1501)
                rows[place] = bad
                self.refused_to_make(NoRow, rows)

    def test_1024_rows_are_taken(self):
        ledger = Ledger()
        book = Book(ledger, some_rows(1024))
        self.holds(book, some_rows(1024))
        self.assertEqual(ledger.many(), 2047)
        self.assertEqual(book.sum_of(10, 0), 2046)

    def test_rows_of_0_to_40_signs_are_taken(self):
        rows = ["", " ", "a" * 40, " " * 40, "abcdefghijklmnopqrstuvwxyz0123456789 "]
        self.holds(Book(Ledger(), rows), rows)


class Put(BookTest):
    def test_the_number_of_blocks_that_have_the_place(self):
        for count in COUNTS:
            book = Book(Ledger(), some_rows(count))
            blocks = whole_blocks(count)
            for place in some_places(count):
                having = [block for block in blocks if place in places_of(*block)]
                told = book.put(place, "x")
                self.assertIs(type(told), int)
                self.assertEqual(told, len(having), (count, place))

    def test_some_numbers(self):
        book = Book(Ledger(), some_rows(7))
        self.assertEqual([book.put(place, "x") for place in range(7)], [3, 3, 3, 3, 2, 2, 1])
        book = Book(Ledger(), some_rows(1024))
        self.assertEqual([book.put(place, "x") for place in (0, 511, 512, 1023)], [11, 11, 11, 11])
        book.cut()
        self.assertEqual([book.put(place, "x") for place in (0, 511, 512, 1022)], [10, 10, 9, 1])

    def test_the_rows_behind_each(self):
        for count in FEW:
            rows = some_rows(count)
            book = Book(Ledger(), rows)
            for place in range(count):
                book.put(place, f"new {place}")
                rows[place] = f"new {place}"
                self.holds(book, rows)

    def test_the_order_of_the_sums_given_out(self):
        ledger = Ledger()
        book = Book(ledger, ["a", "b", "c", "d", "e"])
        self.assertEqual(told_by(ledger), ["a", "b", (0, 1), "c", "d", (3, 4), (2, 5), "e"])
        self.assertEqual(book.put(2, "x"), 3)
        self.assertEqual(told_by(ledger)[8:], ["x", (8, 4), (2, 9)])
        self.assertEqual(book.put(1, "y"), 3)
        self.assertEqual(told_by(ledger)[11:], ["y", (0, 11), (12, 9)])
        self.assertEqual(book.put(4, "z"), 1)
        self.assertEqual(told_by(ledger)[14:], ["z"])

    def test_the_sums_asked_for_are_those_of_the_blocks_that_have_the_place_from_below(self):
        for count in COUNTS:
            rows = some_rows(count)
            ledger, sums = NotingLedger(), PlainSums()
            book = Book(ledger, rows)
            sums.made(rows)
            for place in some_places(count):
                rows[place] = f"new {place}"
                ledger.asked.clear()
                ahead = len(sums.told())
                self.assertEqual(book.put(place, f"new {place}"), sums.of_place(rows, place))
                self.assertEqual(ledger.asked, sums.told()[ahead:], (count, place))
            self.assertEqual(told_by(ledger), sums.told(), count)

    def test_the_same_row_again(self):
        for count in (1, 2, 5, 8, 23, 64):
            ledger = NotingLedger()
            book = Book(ledger, some_rows(count))
            ahead = told_by(ledger)
            for place in range(count):
                ledger.asked.clear()
                told = book.put(place, f"row {place}")
                self.assertEqual(told, len([one for one in whole_blocks(count) if place in places_of(*one)]))
                self.assertEqual(len(ledger.asked), told)
            self.assertEqual(told_by(ledger), ahead)
            self.holds(book, some_rows(count))

    def test_a_row_put_back_gives_out_no_sum(self):
        ledger = Ledger()
        book = Book(ledger, some_rows(12))
        sums = [book.sum_of(*block) for block in whole_blocks(12)]
        book.put(6, "x")
        many = ledger.many()
        self.assertEqual(book.put(6, "row 6"), 4)
        self.assertEqual(ledger.many(), many)
        self.assertEqual([book.sum_of(*block) for block in whole_blocks(12)], sums)

    def test_the_row_of_another_place(self):
        ledger = Ledger()
        book = Book(ledger, ["a", "b"])
        self.assertEqual(book.put(0, "b"), 2)
        self.assertEqual(told_by(ledger), ["a", "b", (0, 1), (1, 1)])
        self.holds(book, ["b", "b"])


class Add(BookTest):
    def test_the_number_of_blocks_that_come(self):
        book = Book(Ledger(), [])
        for count in range(1024):
            told = book.add(f"row {count}")
            self.assertIs(type(told), int)
            ahead, behind = count, count + 1
            come = sum((behind >> height) - (ahead >> height) for height in range(12))
            self.assertEqual(told, come, count)
            if count in COUNTS:
                self.assertEqual(told, len(set(whole_blocks(behind)) - set(whole_blocks(ahead))))

    def test_some_numbers(self):
        book = Book(Ledger(), [])
        self.assertEqual([book.add("a") for _ in range(16)], [1, 2, 1, 3, 1, 2, 1, 4, 1, 2, 1, 3, 1, 2, 1, 5])
        self.assertEqual(Book(Ledger(), some_rows(63)).add("a"), 7)
        self.assertEqual(Book(Ledger(), some_rows(511)).add("a"), 10)
        self.assertEqual(Book(Ledger(), some_rows(1023)).add("a"), 11)
        self.assertEqual(Book(Ledger(), some_rows(1022)).add("a"), 1)

    def test_the_rows_behind_each(self):
        book = Book(Ledger(), [])
        for count in range(41):
            self.holds(book, some_rows(count))
            book.add(f"row {count}")
        for count in (62, 63, 64, 511, 512, 1022, 1023):
            book = Book(Ledger(), some_rows(count))
            book.add("last")
            self.holds(book, some_rows(count) + ["last"])

    def test_adding_gives_out_what_making_does(self):
        ledger = Ledger()
        book = Book(ledger, [])
        for row in some_rows(1024):
            book.add(row)
        whole = Ledger()
        Book(whole, some_rows(1024))
        self.assertEqual(told_by(ledger), told_by(whole))

    def test_the_order_of_the_sums_given_out(self):
        ledger = Ledger()
        book = Book(ledger, ["a", "b", "c"])
        self.assertEqual(book.add("d"), 3)
        self.assertEqual(told_by(ledger), ["a", "b", (0, 1), "c", "d", (3, 4), (2, 5)])
        self.assertEqual(book.add("a"), 1)
        self.assertEqual(ledger.many(), 7)
        self.assertEqual(book.add("c"), 2)
        self.assertEqual(told_by(ledger)[7:], [(0, 3)])

    def test_as_many_sums_are_asked_for_as_are_told(self):
        for row in (None, "a"):
            ledger = NotingLedger()
            book = Book(ledger, [])
            for count in range(70):
                ledger.asked.clear()
                told = book.add(row or f"row {count}")
                self.assertEqual(len(ledger.asked), told)
                self.assertEqual(ledger.asked[0], row or f"row {count}")
                self.assertTrue(all(isinstance(pair, tuple) for pair in ledger.asked[1:]))


class Cut(BookTest):
    def test_the_number_of_blocks_that_go(self):
        book = Book(Ledger(), some_rows(1024))
        for count in reversed(range(1, 1025)):
            told = book.cut()
            self.assertIs(type(told), int)
            go = sum((count >> height) - ((count - 1) >> height) for height in range(12))
            self.assertEqual(told, go, count)
            if count in COUNTS:
                self.assertEqual(told, len(set(whole_blocks(count)) - set(whole_blocks(count - 1))))
        self.holds(book, [])

    def test_some_numbers(self):
        book = Book(Ledger(), some_rows(16))
        self.assertEqual([book.cut() for _ in range(16)], [5, 1, 2, 1, 3, 1, 2, 1, 4, 1, 2, 1, 3, 1, 2, 1])
        self.assertEqual(Book(Ledger(), some_rows(64)).cut(), 7)
        self.assertEqual(Book(Ledger(), some_rows(512)).cut(), 10)
        self.assertEqual(Book(Ledger(), some_rows(1024)).cut(), 11)

    def test_the_rows_behind_each(self):
        book = Book(Ledger(), some_rows(40))
        for count in reversed(range(40)):
            book.cut()
            self.holds(book, some_rows(count))
        for count in (63, 64, 65, 512, 513, 1023, 1024):
            book = Book(Ledger(), some_rows(count))
            book.cut()
            self.holds(book, some_rows(count - 1))

    def test_no_sum_is_asked_for(self):
        ledger = NotingLedger()
        book = Book(ledger, some_rows(70))
        ahead = told_by(ledger)
        ledger.asked.clear()
        for _ in range(70):
            book.cut()
        self.assertEqual(ledger.asked, [])
        self.assertEqual(told_by(ledger), ahead)

    def test_a_row_added_again_gives_out_no_sum(self):
        for count in (1, 2, 3, 4, 16, 37, 64, 512, 1024):
            ledger = Ledger()
            book = Book(ledger, some_rows(count))
            ahead = told_by(ledger)
            went = [book.cut() for _ in range(min(count, 20))]
            came = [book.add(row) for row in some_rows(count)[count - len(went):]]
            self.assertEqual(came, went[::-1])
            self.assertEqual(told_by(ledger), ahead)
            self.holds(book, some_rows(count))

    def test_another_row_behind_a_cut(self):
        ledger = Ledger()
        book = Book(ledger, ["a", "b", "c", "d"])
        book.cut()
        self.assertEqual(book.add("e"), 3)
        self.assertEqual(told_by(ledger)[7:], ["e", (3, 7), (2, 8)])
        self.assertEqual(book.sum_of(2, 0), 9)
        self.holds(book, ["a", "b", "c", "e"])


BEYOND = (-1, -2, -3, -5, -6, -1024, 5, 6, 100, 1023, 1024, 2 ** 31, 2 ** 64, 2 ** 70, -2 ** 70)


class Refusals(BookTest):
    def test_row_refuses_what_is_no_place(self):
        book = Book(Ledger(), some_rows(5))
        for place in BEYOND + NO_INTEGERS:
            with self.subTest(repr(place)):
                self.refused(NoPlace, book, book.row, place)

    def test_put_refuses_what_is_no_place(self):
        book = Book(Ledger(), some_rows(5))
        for place in BEYOND + NO_INTEGERS:
            with self.subTest(repr(place)):
                self.refused(NoPlace, book, book.put, place, "row 1")
                self.refused(NoPlace, book, book.put, place, "a new row")

    def test_put_refuses_what_is_no_row(self):
        book = Book(Ledger(), some_rows(5))
        for bad in NO_ROWS:
            with self.subTest(repr(bad)):
                for place in range(5):
                    self.refused(NoRow, book, book.put, place, bad)

    def test_put_refuses_with_no_place_ahead_of_no_row(self):
        book = Book(Ledger(), some_rows(5))
        for place in BEYOND + NO_INTEGERS:
            for bad in ("A", None, 0, "a" * 41, True):
                self.refused(NoPlace, book, book.put, place, bad)

    def test_a_book_without_rows_has_no_place(self):
        book = Book(Ledger(), [])
        for place in (0, 1, -1, True, False, None, "0", [0]):
            self.refused(NoPlace, book, book.row, place)
            self.refused(NoPlace, book, book.put, place, "a")
            self.refused(NoPlace, book, book.put, place, None)

    def test_add_refuses_what_is_no_row(self):
        for count in (0, 1, 4, 5):
            book = Book(Ledger(), some_rows(count))
            for bad in NO_ROWS:
                with self.subTest(repr(bad)):
                    self.refused(NoRow, book, book.add, bad)

    def test_add_refuses_a_row_more_than_1024(self):
        book = Book(Ledger(), some_rows(1024))
        self.refused(Full, book, book.add, "row 0")
        self.refused(Full, book, book.add, "a new row")
        for bad in ("A", None, 0, "a" * 41, True, "\n"):
            self.refused(NoRow, book, book.add, bad)
        self.assertEqual(book.put(1023, "last"), 11)
        self.assertEqual(book.cut(), 11)
        self.assertEqual(book.add("a new row"), 11)
        self.refused(Full, book, book.add, "a new row")

    def test_cut_refuses_a_book_without_rows(self):
        book = Book(Ledger(), [])
        self.refused(NoPlace, book, book.cut)
        book.add("a")
        self.assertEqual(book.cut(), 1)
        self.refused(NoPlace, book, book.cut)
        self.refused(NoPlace, book, book.cut)
        self.assertEqual(book.add("b"), 1)
        self.holds(book, ["b"])

    def test_a_place_refused_is_taken_once_a_row_stands_there(self):
        book = Book(Ledger(), [])
        for count in range(20):
            self.refused(NoPlace, book, book.row, count)
            self.refused(NoPlace, book, book.put, count, "x")
            book.add("a")
            self.assertEqual(book.row(count), "a")
            self.assertGreater(book.put(count, f"row {count}"), 0)
        for count in reversed(range(20)):
            book.cut()
            self.refused(NoPlace, book, book.row, count)
            self.refused(NoPlace, book, book.put, count, "x")
        self.holds(book, [])

    def test_what_is_refused_asks_for_nothing(self):
        ledger = NotingLedger()
        book = Book(ledger, some_rows(1024))
        ledger.asked.clear()
        for error, deed, things in ((NoPlace, book.put, (1024, "a")), (NoRow, book.put, (0, "A")),
                                    (NoPlace, book.row, (-1,)), (NoRow, book.add, (None,)), (Full, book.add, ("a",))):
            with self.assertRaises(error):
                deed(*things)
        self.assertEqual(ledger.asked, [])

    def test_what_is_handed_in_is_not_changed(self):
        book = Book(Ledger(), some_rows(5))
        for thing in (["b", "a"], {"b": 1}, [[1], [0]]):
            ahead = copy.deepcopy(thing)
            self.refused(NoPlace, book, book.row, thing)
            self.refused(NoPlace, book, book.put, thing, thing)
            self.refused(NoRow, book, book.put, 0, thing)
            self.refused(NoRow, book, book.add, thing)
            with self.assertRaises(NoBlock):
                book.sum_of(thing, thing)
            self.assertEqual(thing, ahead)


class Rows(BookTest):
    def test_the_list_told_is_the_askers_own(self):
        book = Book(Ledger(), some_rows(4))
        told, again = book.rows(), book.rows()
        self.assertIs(type(told), list)
        self.assertIsNot(told, again)
        told.append("more")
        told[0] = "other"
        self.assertEqual(again, some_rows(4))
        self.holds(book, some_rows(4))

    def test_nothing_done_later_changes_a_list_told(self):
        book = Book(Ledger(), some_rows(4))
        told = book.rows()
        book.put(1, "x"), book.add("y"), book.cut(), book.cut()
        self.assertEqual(told, some_rows(4))
        self.holds(book, ["row 0", "x", "row 2"])

    def test_asking_gives_out_nothing(self):
        ledger = NotingLedger()
        book = Book(ledger, some_rows(37))
        ledger.asked.clear()
        book.rows(), book.count(), book.row(3), book.row(36)
        for block in whole_blocks(37):
            book.sum_of(*block)
        self.assertEqual(ledger.asked, [])


class SumOf(BookTest):
    def sums_are_right(self, book, rows, blocks):
        """Each block's sum is the ledger's, built from its rows' sums, and asking gives out nothing."""
        ledger = book.ledger
        many = ledger.many()
        told = {block: book.sum_of(*block) for block in blocks}
        self.assertEqual(ledger.many(), many)
        for (height, number), one in told.items():
            self.assertIs(type(one), int)
            if height == 0:
                self.assertEqual(one, ledger.of_row(rows[number]))
            else:
                halves = told[height - 1, 2 * number], told[height - 1, 2 * number + 1]
                self.assertEqual(one, ledger.of_pair(*halves))
                self.assertEqual(ledger.what(one), halves)
        self.assertEqual(ledger.many(), many)

    def test_all_blocks_of_books_of_few_rows_and_of_greater_ones(self):
        for count in COUNTS:
            for rows in (some_rows(count), [f"{place % 3}" for place in range(count)]):
                book = Book(Ledger(), rows)
                self.sums_are_right(book, rows, whole_blocks(count))

    def test_all_blocks_behind_each_put(self):
        for count in (1, 2, 3, 7, 8, 13, 32):
            rows = some_rows(count)
            book = Book(Ledger(), rows)
            for place in range(count):
                rows[place] = f"new {place}"
                book.put(place, rows[place])
                self.sums_are_right(book, rows, whole_blocks(count))

    def test_all_blocks_behind_each_cut_and_add(self):
        rows = some_rows(40)
        book = Book(Ledger(), rows)
        while rows:
            rows.pop(), book.cut()
            self.sums_are_right(book, rows, whole_blocks(len(rows)))
        for count in range(40):
            rows.append(f"new {count}"), book.add(f"new {count}")
            self.sums_are_right(book, rows, whole_blocks(len(rows)))

    def test_the_left_half_stands_ahead(self):
        ledger = Ledger()
        book = Book(ledger, ["b", "a", "d", "c"])
        self.assertEqual(ledger.what(book.sum_of(1, 0)), (book.sum_of(0, 0), book.sum_of(0, 1)))
        self.assertEqual(ledger.what(book.sum_of(2, 0)), (book.sum_of(1, 0), book.sum_of(1, 1)))
        turned = Book(ledger, ["a", "b"])
        self.assertNotEqual(turned.sum_of(1, 0), book.sum_of(1, 0))

    def test_one_sum_just_where_all_rows_are_the_same(self):
        ledger = Ledger()
        one = Book(ledger, [f"{place % 4}" for place in range(32)])
        other = Book(ledger, [f"{place % 4 if place % 9 else 7}" for place in range(32)])
        for height, number in whole_blocks(32):
            around = places_of(height, number)
            same = one.rows()[around.start:around.stop] == other.rows()[around.start:around.stop]
            self.assertEqual(one.sum_of(height, number) == other.sum_of(height, number), same)

    def refused_block(self, book, height, number):
        with self.assertRaises(NoBlock) as caught:
            book.sum_of(height, number)
        self.assertIs(type(caught.exception), NoBlock)

    def test_blocks_that_the_book_has_not(self):
        for count in COUNTS:
            ledger = NotingLedger()
            book = Book(ledger, some_rows(count))
            ledger.asked.clear()
            for height in range(13):
                number = count >> height
                for beyond in (number, number + 1, number + 1000, 2 ** 70, -1, -2, -number - 1, -2 ** 70):
                    self.refused_block(book, height, beyond)
            for height in (count.bit_length(), -1, -2, 11, 12, 63, 64, 1000, 10 ** 6, 2 ** 70, -2 ** 70):
                for number in (0, 1, -1):
                    self.refused_block(book, height, number)
            self.assertEqual(ledger.asked, [])

    def test_things_of_other_kinds_are_refused(self):
        book = Book(Ledger(), some_rows(8))
        for thing in NO_INTEGERS:
            with self.subTest(repr(thing)):
                for sound in (0, 1, 2):
                    self.refused_block(book, thing, sound)
                    self.refused_block(book, sound, thing)
                self.refused_block(book, thing, thing)
                self.refused_block(book, -1, thing)
                self.refused_block(book, thing, 2 ** 70)
        self.holds(book, some_rows(8))

    def test_a_block_cut_away_is_refused_till_its_rows_are_there_again(self):
        book = Book(Ledger(), some_rows(16))
        sums = {block: book.sum_of(*block) for block in whole_blocks(16)}
        for count in reversed(range(16)):
            book.cut()
            for block in sums:
                if block in whole_blocks(count):
                    self.assertEqual(book.sum_of(*block), sums[block])
                else:
                    self.refused_block(book, *block)
        for count in range(16):
            book.add(f"row {count}")
            for block in sums:
                if block in whole_blocks(count + 1):
                    self.assertEqual(book.sum_of(*block), sums[block])
                else:
                    self.refused_block(book, *block)

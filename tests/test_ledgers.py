"""Point 3, the interface's paragraph of twinsum/ledgers.py, and what points 1 and 2 say of them."""

import copy
import unittest

from tests.things import NO_INTEGERS, NO_TEXTS
from twinsum.errors import NoRow, NoSum
from twinsum.ledgers import Ledger

SIGNS = "abcdefghijklmnopqrstuvwxyz0123456789 "


def filled(many):
    """A ledger that gave out so many sums, all of rows."""
    ledger = Ledger()
    for number in range(many):
        ledger.of_row(f"row {number}")
    return ledger


class Interface(unittest.TestCase):
    def test_the_class_stands_in_its_file(self):
        self.assertEqual(Ledger.__module__, "twinsum.ledgers")

    def test_each_method_stands_in_the_class_itself(self):
        for name in ("of_row", "of_pair", "what", "many"):
            self.assertIn(name, vars(Ledger))

    def test_the_names_of_the_arguments(self):
        ledger = Ledger()
        self.assertEqual(ledger.of_row(row="a"), 0)
        self.assertEqual(ledger.of_pair(one=0, other=0), 1)
        self.assertEqual(ledger.what(number=1), (0, 0))


class Sums(unittest.TestCase):
    def test_sums_count_from_0_as_they_are_first_asked_for(self):
        ledger = Ledger()
        told = [
            ledger.of_row("b"), ledger.of_row("a"), ledger.of_pair(1, 0), ledger.of_row(""),
            ledger.of_pair(2, 3), ledger.of_pair(0, 1), ledger.of_row("c"),
        ]
        self.assertEqual(told, [0, 1, 2, 3, 4, 5, 6])
        for one in told:
            self.assertIs(type(one), int)

    def test_the_same_row_again_has_the_same_sum(self):
        ledger = filled(50)
        for number in list(range(50)) + list(reversed(range(50))):
            self.assertEqual(ledger.of_row(f"row {number}"), number)
        self.assertEqual(ledger.many(), 50)
        self.assertEqual(ledger.of_row("new"), 50)

    def test_the_same_pair_again_has_the_same_sum(self):
        ledger = filled(2)
        self.assertEqual([ledger.of_pair(0, 1), ledger.of_pair(0, 1)], [2, 2])
        self.assertEqual([ledger.of_pair(1, 2), ledger.of_row("new"), ledger.of_pair(1, 2)], [3, 4, 3])
        self.assertEqual([ledger.of_pair(0, 1), ledger.many()], [2, 5])

    def test_a_row_that_is_made_anew_is_the_same_row(self):
        ledger = Ledger()
        first = ledger.of_row("a long row of 33 signs 0123456789")
        again = "".join(["a long row of 33 ", "signs 0123456789"])
        self.assertEqual(ledger.of_row(again), first)

    def test_the_order_of_a_pair_counts(self):
        ledger = filled(2)
        self.assertEqual([ledger.of_pair(0, 1), ledger.of_pair(1, 0)], [2, 3])
        self.assertEqual([ledger.of_pair(1, 0), ledger.of_pair(0, 1)], [3, 2])

    def test_a_pair_may_be_of_one_sum_twice(self):
        ledger = filled(2)
        self.assertEqual([ledger.of_pair(0, 0), ledger.of_pair(1, 1), ledger.of_pair(0, 0)], [2, 3, 2])

    def test_other_pairs_have_other_sums(self):
        ledger = filled(2100)
        of = [0, 1, 2, 9, 10, 11, 12, 99, 100, 101, 110, 111, 112, 121, 211, 255, 256, 257, 511, 512,
              999, 1000, 1001, 1010, 1023, 1024, 1025, 1111, 2000, 2047, 2048, 2099]
        pairs = [(one, other) for one in of for other in of]
        told = [ledger.of_pair(one, other) for one, other in pairs]
        self.assertEqual(told, list(range(2100, 2100 + len(pairs))))
        self.assertEqual([ledger.of_pair(one, other) for one, other in pairs], told)
        self.assertEqual([ledger.what(number) for number in told], pairs)

    def test_other_rows_have_other_sums(self):
        ledger = Ledger()
        rows = ["", " ", "  ", "a", " a", "a ", " a ", "aa", "ab", "ba", "a b", "a  b", "0", "00", "1", "01",
                "x" * 39, "x" * 40, "x" * 39 + "y", "y" + "x" * 39, " " * 39, " " * 40]
        self.assertEqual([ledger.of_row(row) for row in rows], list(range(len(rows))))
        self.assertEqual([ledger.of_row(row) for row in rows], list(range(len(rows))))

    def test_a_pair_is_not_the_same_as_a_row(self):
        rows = ["0 1", "01", "0  1", "0", "1", "00 01", "pair 0 1", "0 0", "1 0", "10", "", " "]
        pairs = [(0, 1), (1, 0), (0, 0), (1, 1)]
        ledger = filled(2)
        of_rows = [ledger.of_row(row) for row in rows]
        of_pairs = [ledger.of_pair(one, other) for one, other in pairs]
        self.assertEqual(of_rows + of_pairs, list(range(2, 2 + len(rows) + len(pairs))))
        ledger = filled(2)
        of_pairs = [ledger.of_pair(one, other) for one, other in pairs]
        of_rows = [ledger.of_row(row) for row in rows]
        self.assertEqual(of_pairs + of_rows, list(range(2, 2 + len(rows) + len(pairs))))

    def test_a_row_is_not_the_same_as_the_sum_that_it_writes(self):
        ledger = Ledger()
        self.assertEqual([ledger.of_row("1"), ledger.of_row("0")], [0, 1])
        self.assertEqual([ledger.what(0), ledger.what(1)], ["1", "0"])

    def test_a_pair_of_a_pair_is_not_the_pair_the_other_way_in(self):
        ledger = filled(3)
        left = ledger.of_pair(ledger.of_pair(0, 1), 2)
        right = ledger.of_pair(0, ledger.of_pair(1, 2))
        self.assertNotEqual(left, right)

    def test_two_ledgers_know_nothing_of_each_other(self):
        one, other = Ledger(), Ledger()
        self.assertEqual([one.of_row("a"), one.of_row("b"), one.of_pair(0, 1)], [0, 1, 2])
        self.assertEqual(other.many(), 0)
        with self.assertRaises(NoSum):
            other.what(0)
        with self.assertRaises(NoSum):
            other.of_pair(0, 1)
        self.assertEqual([other.of_row("b"), other.of_pair(0, 0), other.of_row("a")], [0, 1, 2])
        self.assertEqual([one.what(0), one.what(1), one.what(2)], ["a", "b", (0, 1)])
        self.assertEqual([other.what(0), other.what(1), other.what(2)], ["b", (0, 0), "a"])
        self.assertEqual(Ledger().many(), 0)


class Rows(unittest.TestCase):
    def refused(self, row):
        ledger = filled(2)
        with self.assertRaises(NoRow):
            ledger.of_row(row)
        self.assertEqual(ledger.many(), 2)
        self.assertEqual(ledger.of_row("new"), 2)

    def test_rows_of_0_to_40_signs_are_taken(self):
        ledger = Ledger()
        for many in range(41):
            self.assertEqual(ledger.of_row("z" * many), many)
        for many in range(41):
            self.assertEqual(ledger.what(many), "z" * many)

    def test_more_than_40_signs_are_refused(self):
        for row in ("z" * 41, " " * 41, "0" * 42, "a" * 1000, "a" * 40 + " ", " " + "a" * 40, SIGNS * 2):
            with self.subTest(row):
                self.refused(row)

    def test_each_sign_of_a_row_is_taken_and_no_other(self):
        for code in range(32, 127):
            for row in (chr(code), "a" + chr(code), chr(code) + "a", "a" + chr(code) + "9", chr(code) * 40):
                with self.subTest(row):
                    if chr(code) in SIGNS:
                        ledger = Ledger()
                        self.assertEqual([ledger.of_row(row), ledger.what(0)], [0, row])
                    else:
                        self.refused(row)

    def test_a_row_of_all_signs_is_taken(self):
        self.assertEqual(Ledger().of_row(SIGNS), 0)
        self.assertEqual(Ledger().of_row(SIGNS[::-1]), 0)

    def test_capitals_are_refused(self):
        for row in ("A", "Abc", "abC", "aBc", "Z", "A" * 40):
            with self.subTest(row):
                self.refused(row)

    def test_tabs_and_line_ends_are_refused_wherever_they_stand(self):
        for bad in ("\t", "\n", "\r\n", "\n\n"):
            for row in (bad, "a" + bad + "b", "ab" + bad, bad + "ab", " " + bad, "a" * 39 + bad[:1]):
                with self.subTest(row):
                    self.refused(row)

    def test_things_of_other_kinds_are_refused(self):
        for thing in NO_TEXTS:
            with self.subTest(repr(thing)):
                self.refused(thing)

    def test_a_sum_and_a_pair_are_no_rows(self):
        ledger = filled(2)
        ledger.of_pair(0, 1)
        for thing in (0, 1, 2, (0, 1), [0, 1]):
            with self.assertRaises(NoRow):
                ledger.of_row(thing)
        self.assertEqual(ledger.many(), 3)

    def test_what_is_handed_in_is_not_changed(self):
        for thing in (["b", "a"], {"b": 1}, [[1], [0]]):
            ahead = copy.deepcopy(thing)
            self.refused(thing)
            self.assertEqual(thing, ahead)


class Pairs(unittest.TestCase):
    def refused(self, ledger, one, other):
        ahead = ledger.many()
        with self.assertRaises(NoSum):
            ledger.of_pair(one, other)
        self.assertEqual(ledger.many(), ahead)

    def refused_on_either_side(self, thing):
        ledger = filled(3)
        # These stand in the ledger, so that what is the same to Python is found there.
        ledger.of_pair(0, 1), ledger.of_pair(1, 0), ledger.of_pair(1, 1), ledger.of_pair(0, 0)
        for sound in (0, 1, 2, 6):
            self.refused(ledger, thing, sound)
            self.refused(ledger, sound, thing)
        self.refused(ledger, thing, thing)
        self.assertEqual(ledger.of_pair(2, 2), 7)

    def test_numbers_that_were_not_given_out_are_refused(self):
        for number in (7, 8, -1, -2, -6, -7, -8, 100, 2 ** 31, 2 ** 63, 2 ** 64, 10 ** 40, -(10 ** 40)):
            with self.subTest(number):
                self.refused_on_either_side(number)

    def test_things_of_other_kinds_are_refused(self):
        for thing in NO_INTEGERS:
            with self.subTest(repr(thing)):
                self.refused_on_either_side(thing)

    def test_the_empty_ledger_has_no_sum_to_pair(self):
        ledger = Ledger()
        for number in (0, 1, -1, True, False, None):
            self.refused(ledger, number, number)
        self.assertEqual(ledger.of_row("a"), 0)

    def test_the_same_number_is_taken_once_it_was_given_out(self):
        ledger = filled(1)
        self.refused(ledger, 0, 1)
        self.refused(ledger, 1, 0)
        self.assertEqual(ledger.of_row("next"), 1)
        self.assertEqual([ledger.of_pair(0, 1), ledger.of_pair(1, 0)], [2, 3])
        self.refused(ledger, 4, 4)
        self.assertEqual(ledger.of_pair(3, 3), 4)
        self.assertEqual(ledger.of_pair(4, 4), 5)

    def test_the_sum_that_a_pair_would_have_is_not_given_out_yet(self):
        ledger = filled(2)
        self.refused(ledger, 2, 0)
        self.refused(ledger, 0, 2)
        self.assertEqual(ledger.of_pair(0, 0), 2)
        self.assertEqual(ledger.of_pair(2, 0), 3)

    def test_what_is_handed_in_is_not_changed(self):
        ledger = filled(2)
        for thing in ([1, 0], {"b": 1}, [[1], [0]]):
            ahead = copy.deepcopy(thing)
            self.refused(ledger, thing, 0)
            self.refused(ledger, 0, thing)
            self.assertEqual(thing, ahead)


class What(unittest.TestCase):
    def test_what_tells_rows_and_pairs(self):
        ledger = Ledger()
        asked = ["b", "", (0, 1), (1, 0), " ", (2, 4), (0, 0), "0 1", "x" * 40]
        for thing in asked:
            if isinstance(thing, str):
                ledger.of_row(thing)
            else:
                ledger.of_pair(thing[0], thing[1])
        told = [ledger.what(number) for number in range(len(asked))]
        self.assertEqual(told, asked)
        self.assertEqual([type(thing) for thing in told], [type(thing) for thing in asked])
        for one, other in [thing for thing in told if isinstance(thing, tuple)]:
            self.assertEqual([type(one), type(other)], [int, int])

    def test_numbers_that_were_not_given_out_are_refused(self):
        ledger = filled(3)
        ledger.of_pair(0, 1)
        for number in (4, 5, -1, -2, -3, -4, -5, 100, 2 ** 31, 2 ** 63, 2 ** 64, 10 ** 40, -(10 ** 40)):
            with self.subTest(number):
                with self.assertRaises(NoSum):
                    ledger.what(number)
        self.assertEqual(ledger.what(3), (0, 1))

    def test_the_same_number_is_told_once_it_was_given_out(self):
        ledger = Ledger()
        for number in range(4):
            with self.assertRaises(NoSum):
                ledger.what(number)
            ledger.of_row("a" * number)
            self.assertEqual(ledger.what(number), "a" * number)

    def test_things_of_other_kinds_are_refused(self):
        ledger = filled(3)
        for thing in NO_INTEGERS + ("row 0", (0, 0)):
            with self.subTest(repr(thing)):
                with self.assertRaises(NoSum):
                    ledger.what(thing)

    def test_asking_what_gives_out_nothing(self):
        ledger = filled(3)
        for number in (0, 2, 1, 1):
            ledger.what(number)
        for thing in (3, -1, None, True, "a"):
            with self.assertRaises(NoSum):
                ledger.what(thing)
        self.assertEqual(ledger.many(), 3)
        self.assertEqual(ledger.of_row("new"), 3)


class Many(unittest.TestCase):
    def test_many_counts_what_was_given_out(self):
        ledger = Ledger()
        told = [ledger.many()]
        for row in ("a", "b", "a", ""):
            ledger.of_row(row)
            told.append(ledger.many())
        for one, other in ((0, 0), (0, 1), (0, 0), (1, 0)):
            ledger.of_pair(one, other)
            told.append(ledger.many())
        self.assertEqual(told, [0, 1, 2, 2, 3, 4, 5, 5, 6])
        self.assertEqual({type(one) for one in told}, {int})

    def test_asking_many_gives_out_nothing(self):
        ledger = filled(2)
        self.assertEqual([ledger.many(), ledger.many(), ledger.many()], [2, 2, 2])
        self.assertEqual(ledger.of_row("new"), 2)

    def test_refusals_give_out_nothing(self):
        ledger = filled(2)
        for row in ("A", "a" * 41, "\t", None, 0, ["a"]):
            with self.assertRaises(NoRow):
                ledger.of_row(row)
        for one, other in ((0, 2), (2, 0), (-1, 0), (0, True), ("0", 0), (0, None), ([0], 0)):
            with self.assertRaises(NoSum):
                ledger.of_pair(one, other)
        self.assertEqual(ledger.many(), 2)
        self.assertEqual(ledger.of_pair(0, 0), 2)
        with self.assertRaises(NoRow):
            ledger.of_row("B")
        self.assertEqual(ledger.of_row("b"), 3)
        self.assertEqual(ledger.many(), 4)

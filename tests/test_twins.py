"""Points 7, 8, 9 and 10, and the interface's paragraph of twinsum/twins.py."""

import copy
import functools
import unittest

from tests.things import (COUNTS, NO_INTEGERS, NO_ROWS, NotingLedger, PlainLooks, plain_moves, some_places, some_rows,
                          told_by)
from twinsum import twins
from twinsum.blocks import parted
from twinsum.books import Book
from twinsum.errors import Full, NoPlace, NoRow, Strange
from twinsum.ledgers import Ledger
from twinsum.twins import all_unlike, first_unlike, made, moves


def two(one, other):
    """Two books of one ledger."""
    ledger = Ledger()
    return Book(ledger, one), Book(ledger, other)


def changed(rows, *places):
    """The rows, with others at these places."""
    return [row + " new" if place in places else row for place, row in enumerate(rows)]


def pairs():
    """Pairs of lists of rows: alike, unlike at some places, and one shorter than the other."""
    for count in COUNTS:
        rows = some_rows(count)
        places = some_places(count)
        yield rows, list(rows)
        yield rows, changed(rows, *range(count))
        yield rows, changed(rows, *places[::2])
        yield rows, changed(rows, *range(1, count, 2))
        for place in places[:3] + places[len(places) // 2:][:3] + places[-3:]:
            yield rows, changed(rows, place)
            yield rows, changed(rows, place, count - 1, count // 3)
        for other in (count + 1, count + 5, 1024):
            longer = some_rows(min(other, 1024))
            yield rows, longer
            yield changed(rows, *places[-1:]), longer
            yield longer, changed(rows, *places[:1], *places[-2:])


@functools.cache
def cases():
    """The pairs of lists, each with two books of them, which are made once: no test here changes them."""
    return [(one, other, two(one, other)) for one, other in pairs()]


class Interface(unittest.TestCase):
    def test_the_functions_stand_in_their_file(self):
        for name in ("first_unlike", "all_unlike", "moves", "made"):
            self.assertEqual(getattr(twins, name).__module__, "twinsum.twins")

    def test_the_names_of_the_arguments(self):
        one, other = two(["a"], ["b"])
        self.assertEqual(twins.first_unlike(one=one, other=other), (0, [(0, 0, False)]))
        self.assertEqual(twins.all_unlike(one=one, other=other), ([0], [(0, 0, False)]))
        self.assertEqual(twins.moves(one=one, other=other), [("put", 0, "b")])
        self.assertIsNone(twins.made(book=one, moves=[("put", 0, "b")]))
        self.assertEqual(one.rows(), ["b"])


class LooksTest(unittest.TestCase):
    def looks_are_of_their_kinds(self, looks):
        self.assertIs(type(looks), list)
        for look in looks:
            self.assertIs(type(look), tuple)
            self.assertEqual([type(part) for part in look], [int, int, bool])


class FirstUnlike(LooksTest):
    def test_no_rows(self):
        self.assertEqual(first_unlike(*two([], [])), (None, []))
        self.assertEqual(first_unlike(*two([], ["a"])), (0, []))
        self.assertEqual(first_unlike(*two(["a", "b"], [])), (0, []))

    def test_books_alike(self):
        self.assertEqual(first_unlike(*two(["a"], ["a"])), (None, [(0, 0, True)]))
        self.assertEqual(first_unlike(*two(some_rows(8), some_rows(8))), (None, [(3, 0, True)]))
        looks = [(3, 0, True), (1, 4, True), (0, 10, True)]
        self.assertEqual(first_unlike(*two(some_rows(11), some_rows(11))), (None, looks))

    def test_alike_as_far_as_both_go(self):
        looks = [(2, 0, True), (0, 4, True)]
        self.assertEqual(first_unlike(*two(some_rows(5), some_rows(8))), (5, looks))
        self.assertEqual(first_unlike(*two(some_rows(8), some_rows(5))), (5, looks))
        self.assertEqual(first_unlike(*two(some_rows(1024), some_rows(1023)))[0], 1023)

    def test_the_left_half_is_looked_at_and_the_right_one_is_not(self):
        rows = some_rows(8)
        left = [(3, 0, False), (2, 0, False), (1, 0, False), (0, 0, False)]
        self.assertEqual(first_unlike(*two(rows, changed(rows, 0))), (0, left))
        right = [(3, 0, False), (2, 0, True), (1, 2, True), (0, 6, True)]
        self.assertEqual(first_unlike(*two(rows, changed(rows, 7))), (7, right))
        middle = [(3, 0, False), (2, 0, True), (1, 2, False), (0, 4, True)]
        self.assertEqual(first_unlike(*two(rows, changed(rows, 5))), (5, middle))
        self.assertEqual(first_unlike(*two(rows, changed(rows, 5, 6, 7))), (5, middle))
        self.assertEqual(first_unlike(*two(rows, changed(rows, *range(8)))), (0, left))

    def test_the_parts_one_behind_the_other_up_to_the_first_that_is_not_alike(self):
        rows = some_rows(7)
        self.assertEqual(first_unlike(*two(rows, changed(rows, 6))), (6, [(2, 0, True), (1, 2, True), (0, 6, False)]))
        looks = [(2, 0, True), (1, 2, False), (0, 4, True)]
        self.assertEqual(first_unlike(*two(rows, changed(rows, 5, 6))), (5, looks))
        looks = [(2, 0, False), (1, 0, True), (0, 2, False)]
        self.assertEqual(first_unlike(*two(rows, changed(rows, 2, 5, 6))), (2, looks))

    def test_only_blocks_of_the_lesser_count(self):
        rows = some_rows(6)
        looks = [(2, 0, True), (1, 2, False), (0, 4, True)]
        self.assertEqual(first_unlike(*two(changed(rows, 5), some_rows(16))), (5, looks))
        self.assertEqual(first_unlike(*two(some_rows(16), changed(rows, 5))), (5, looks))

    def test_one_row_moved_ahead_of_all(self):
        rows = ["a", "b", "c", "d"]
        self.assertEqual(first_unlike(*two(rows, ["x"] + rows)), (0, [(2, 0, False), (1, 0, False), (0, 0, False)]))
        self.assertEqual(first_unlike(*two(["a"] * 4, ["a"] * 5)), (4, [(2, 0, True)]))

    def test_the_place_and_the_very_looks(self):
        for one, other, books in cases():
            place, looks = first_unlike(*books)
            self.assertEqual((place, looks), PlainLooks(one, other).first())
            self.looks_are_of_their_kinds(looks)
            lesser = min(len(one), len(other))
            found = [at for at in range(lesser) if one[at] != other[at]]
            self.assertEqual(place, found[0] if found else None if len(one) == len(other) else lesser)

    def test_every_place_of_books_of_few_rows(self):
        for count in range(1, 41):
            rows = some_rows(count)
            one, other = two(rows, rows)
            for place in range(count):
                other.put(place, "x")
                told = first_unlike(one, other)
                self.assertEqual(told, PlainLooks(rows, other.rows()).first())
                self.assertEqual(told, first_unlike(other, one))
                self.assertEqual(told[0], place)
                other.put(place, rows[place])

    def test_at_most_as_many_looks_as_the_lesser_count_has_binary_digits(self):
        for one, other, books in cases():
            lesser = min(len(one), len(other))
            most = len(f"{lesser:b}") if lesser else 0
            self.assertLessEqual(len(first_unlike(*books)[1]), most)

    def test_as_many_looks_are_needed_for_a_power_of_two(self):
        for height in range(11):
            rows = some_rows(2 ** height)
            self.assertEqual(len(first_unlike(*two(rows, changed(rows, 2 ** height - 1)))[1]), height + 1)

    def test_a_tuple_of_the_place_and_the_looks(self):
        told = first_unlike(*two(["a", "b"], ["a", "c"]))
        self.assertIs(type(told), tuple)
        self.assertEqual(told, (1, [(1, 0, False), (0, 0, True)]))
        self.assertIs(type(told[0]), int)

    def test_behind_put_add_and_cut(self):
        one, other = two(some_rows(6), some_rows(6))
        one.put(3, "x")
        self.assertEqual(first_unlike(one, other), (3, [(2, 0, False), (1, 0, True), (0, 2, True)]))
        other.put(3, "x")
        self.assertEqual(first_unlike(one, other), (None, [(2, 0, True), (1, 2, True)]))
        one.add("y")
        self.assertEqual(first_unlike(one, other), (6, [(2, 0, True), (1, 2, True)]))
        other.add("z")
        self.assertEqual(first_unlike(one, other), (6, [(2, 0, True), (1, 2, True), (0, 6, False)]))
        one.cut(), one.cut(), one.cut()
        self.assertEqual(first_unlike(one, other), (4, [(2, 0, True)]))
        one.cut()
        self.assertEqual(first_unlike(one, other), (3, [(1, 0, True), (0, 2, True)]))

    def test_a_book_and_itself(self):
        book, _ = two(some_rows(5), [])
        self.assertEqual(first_unlike(book, book), (None, [(2, 0, True), (0, 4, True)]))

    def test_the_list_told_is_the_askers_own(self):
        one, other = two(some_rows(7), changed(some_rows(7), 6))
        told = first_unlike(one, other)
        looks = list(told[1])
        again = first_unlike(one, other)
        again[1].append("more")
        again[1][0] = None
        self.assertEqual(told[1], looks)
        one.put(0, "x"), one.cut(), first_unlike(one, other), all_unlike(one, other)
        self.assertEqual(told, (6, looks))


class AllUnlike(LooksTest):
    def test_no_rows(self):
        self.assertEqual(all_unlike(*two([], [])), ([], []))
        self.assertEqual(all_unlike(*two([], ["a"])), ([], []))
        self.assertEqual(all_unlike(*two(["a", "b"], [])), ([], []))

    def test_none_unlike(self):
        self.assertEqual(all_unlike(*two(some_rows(7), some_rows(7))), ([], [(2, 0, True), (1, 2, True), (0, 6, True)]))
        self.assertEqual(all_unlike(*two(some_rows(5), some_rows(8))), ([], [(2, 0, True), (0, 4, True)]))
        self.assertEqual(all_unlike(*two(some_rows(8), some_rows(5))), ([], [(2, 0, True), (0, 4, True)]))

    def test_one_unlike(self):
        rows = some_rows(8)
        looks = [(3, 0, False), (2, 0, True), (1, 2, False), (0, 4, True), (1, 3, True)]
        self.assertEqual(all_unlike(*two(rows, changed(rows, 5))), ([5], looks))
        looks = [(3, 0, False), (2, 0, False), (1, 0, False), (0, 0, False), (0, 1, True), (1, 1, True), (2, 1, True)]
        self.assertEqual(all_unlike(*two(rows, changed(rows, 0))), ([0], looks))
        looks = [(3, 0, False), (2, 0, True), (1, 2, True), (0, 6, True)]
        self.assertEqual(all_unlike(*two(rows, changed(rows, 7))), ([7], looks))

    def test_some_unlike(self):
        rows = some_rows(8)
        looks = [(3, 0, False), (2, 0, False), (1, 0, True), (0, 2, False), (0, 3, True), (2, 1, False), (1, 2, True),
                 (0, 6, True)]
        self.assertEqual(all_unlike(*two(rows, changed(rows, 2, 7))), ([2, 7], looks))

    def test_all_unlike(self):
        rows = some_rows(4)
        looks = [(2, 0, False), (1, 0, False), (0, 0, False), (0, 1, False), (1, 1, False), (0, 2, False),
                 (0, 3, False)]
        self.assertEqual(all_unlike(*two(rows, changed(rows, 0, 1, 2, 3))), ([0, 1, 2, 3], looks))

    def test_a_part_is_gone_on_in_ahead_of_the_next(self):
        rows = some_rows(7)
        looks = [(2, 0, False), (1, 0, True), (0, 2, True), (1, 2, True), (0, 6, False)]
        self.assertEqual(all_unlike(*two(rows, changed(rows, 3, 6))), ([3, 6], looks))
        looks = [(2, 0, True), (1, 2, False), (0, 4, False), (0, 5, True), (0, 6, True)]
        self.assertEqual(all_unlike(*two(rows, changed(rows, 4))), ([4], looks))

    def test_only_places_below_the_lesser_count(self):
        rows = some_rows(6)
        looks = [(2, 0, True), (1, 2, False), (0, 4, True)]
        self.assertEqual(all_unlike(*two(changed(rows, 5), some_rows(16))), ([5], looks))
        self.assertEqual(all_unlike(*two(some_rows(16), changed(rows, 5))), ([5], looks))

    def test_the_places_and_the_very_looks(self):
        for one, other, books in cases():
            told = all_unlike(*books)
            self.assertEqual(told, PlainLooks(one, other).all())
            self.assertIs(type(told), tuple)
            places, looks = told
            self.assertIs(type(places), list)
            self.assertEqual({type(place) for place in places} - {int}, set())
            self.assertEqual(places, sorted(set(places)))
            self.looks_are_of_their_kinds(looks)

    def test_all_choices_of_places_of_books_of_few_rows(self):
        for count in range(9):
            rows = some_rows(count)
            for choice in range(2 ** count):
                places = [place for place in range(count) if choice >> place & 1]
                other = changed(rows, *places)
                told = all_unlike(*two(rows, other))
                self.assertEqual(told, PlainLooks(rows, other).all())
                self.assertEqual(told[0], places)

    def test_at_most_so_many_looks(self):
        for one, other, books in cases():
            places, looks = all_unlike(*books)
            lesser = min(len(one), len(other))
            binary = len(f"{lesser:b}") if lesser else 0
            self.assertLessEqual(len(looks), binary + 2 * len(places) * (binary - 1))

    def test_no_block_is_looked_at_twice(self):
        for _, _, books in cases():
            blocks = [look[:2] for look in all_unlike(*books)[1]]
            self.assertEqual(len(blocks), len(set(blocks)))

    def test_behind_put_add_and_cut(self):
        one, other = two(some_rows(4), some_rows(4))
        one.put(1, "x"), one.add("y"), other.add("z")
        looks = [(2, 0, False), (1, 0, False), (0, 0, True), (1, 1, True), (0, 4, False)]
        self.assertEqual(all_unlike(one, other), ([1, 4], looks))
        other.cut(), one.put(1, "row 1")
        self.assertEqual(all_unlike(one, other), ([], [(2, 0, True)]))

    def test_the_lists_told_are_the_askers_own(self):
        one, other = two(some_rows(7), changed(some_rows(7), 2, 6))
        told = all_unlike(one, other)
        kept = copy.deepcopy(told)
        again = all_unlike(one, other)
        again[0].append("more"), again[1].append("more")
        again[0][0] = again[1][0] = None
        self.assertEqual(told, kept)
        one.put(0, "x"), one.cut(), all_unlike(one, other), first_unlike(one, other), moves(one, other)
        self.assertEqual(told, kept)


class Moves(unittest.TestCase):
    def test_puts_then_adds(self):
        one, other = two(["a", "b", "c"], ["x", "b", "y", "d", "e"])
        told = moves(one, other)
        self.assertEqual(told, [("put", 0, "x"), ("put", 2, "y"), ("add", "d"), ("add", "e")])

    def test_puts_then_cuts(self):
        one, other = two(["x", "b", "y", "d", "e"], ["a", "b", "c"])
        self.assertEqual(moves(one, other), [("put", 0, "a"), ("put", 2, "c"), ("cut",), ("cut",)])

    def test_from_and_to_a_book_without_rows(self):
        one, other = two([], ["a", "b"])
        self.assertEqual(moves(one, other), [("add", "a"), ("add", "b")])
        self.assertEqual(moves(other, one), [("cut",), ("cut",)])
        self.assertEqual(moves(one, one), [])

    def test_of_a_book_and_itself_and_of_books_alike(self):
        for count in COUNTS:
            one, other = two(some_rows(count), some_rows(count))
            self.assertEqual(moves(one, one), [])
            self.assertEqual(moves(one, other), [])

    def test_the_very_list(self):
        for one, other, books in cases():
            for first, second, told in ((one, other, moves(*books)), (other, one, moves(*books[::-1]))):
                self.assertEqual(told, plain_moves(first, second))
                self.assertIs(type(told), list)
                self.assertEqual({type(move) for move in told} - {tuple}, set())

    def test_done_they_make_the_rows_the_others(self):
        for rows, others, _ in cases():
            for first, second in ((rows, others), (others, rows)):
                one, other = two(first, second)
                self.assertIsNone(made(one, moves(one, other)))
                self.assertEqual(one.rows(), second)
                self.assertEqual(other.rows(), second)
                self.assertEqual([moves(one, other), moves(other, one)], [[], []])

    def test_no_fewer_deeds_do(self):
        signs = ("a", "b")
        lists = [()]
        for rows in lists:
            if len(rows) < 4:
                lists.extend(rows + (sign,) for sign in signs)
        for start in lists:
            far = {start: 0}
            line = [start]
            for rows in line:
                reached = [rows[:place] + (sign,) + rows[place + 1:] for place in range(len(rows)) for sign in signs]
                reached += [rows + (sign,) for sign in signs if len(rows) < 5] + ([rows[:-1]] if rows else [])
                for one in reached:
                    if one not in far:
                        far[one] = far[rows] + 1
                        line.append(one)
            for end in lists:
                self.assertEqual(len(moves(*two(list(start), list(end)))), far[end])

    def test_the_list_told_is_the_askers_own(self):
        one, other = two(some_rows(6), changed(some_rows(4), 0, 2))
        told = moves(one, other)
        kept = list(told)
        again = moves(one, other)
        again.append("more")
        again[0] = None
        self.assertEqual(told, kept)
        made(one, told), other.put(0, "z"), moves(one, other)
        self.assertEqual(told, kept)


class Made(unittest.TestCase):
    def test_no_moves(self):
        book, _ = two(["a"], [])
        self.assertIsNone(made(book, []))
        self.assertEqual(book.rows(), ["a"])

    def test_moves_in_any_order(self):
        book, _ = two(["a", "b"], [])
        done = [("cut",), ("add", "c"), ("put", 1, "d"), ("add", "e"), ("put", 0, "f"), ("add", "g"), ("cut",)]
        kept = list(done)
        self.assertIsNone(made(book, done))
        self.assertEqual(book.rows(), ["f", "d", "e"])
        self.assertEqual(done, kept)

    def test_the_sums_given_out_are_those_of_the_deeds(self):
        done = [("cut",), ("add", "c"), ("put", 1, "d"), ("add", "e"), ("put", 0, "f"), ("add", "g"), ("cut",)]
        one, other = NotingLedger(), NotingLedger()
        book, hand = Book(one, ["a", "b"]), Book(other, ["a", "b"])
        made(book, done)
        hand.cut(), hand.add("c"), hand.put(1, "d"), hand.add("e"), hand.put(0, "f"), hand.add("g"), hand.cut()
        self.assertEqual(one.asked, other.asked)
        self.assertEqual(book.rows(), hand.rows())

    def refused(self, error, rows, ahead, bad):
        """The bad move is refused; the one ahead of it is done, the one behind it is not."""
        ledger, expected = Ledger(), Ledger()
        book, hand = Book(ledger, rows), Book(expected, rows)
        made(hand, ahead)
        done = ahead + [bad, ("add", "behind"), ("put", 0, "behind"), ("cut",)]
        kept = list(done)
        with self.assertRaises(error) as caught:
            made(book, done)
        self.assertIs(type(caught.exception), error)
        self.assertEqual(book.rows(), hand.rows())
        self.assertEqual(told_by(ledger), told_by(expected))
        self.assertTrue(all(one is other for one, other in zip(done, kept)) and len(done) == len(kept))

    def test_moves_that_cannot_be_done(self):
        ahead = [("put", 0, "x"), ("add", "y")]
        for place in (-1, 3, 4, 100, 2 ** 70) + NO_INTEGERS:
            self.refused(NoPlace, ["a", "b"], ahead, ("put", place, "z"))
            self.refused(NoPlace, ["a", "b"], ahead, ("put", place, None))
        for row in NO_ROWS:
            self.refused(NoRow, ["a", "b"], ahead, ("put", 1, row))
            self.refused(NoRow, ["a", "b"], ahead, ("add", row))
        self.refused(NoPlace, ["a", "b"], [("cut",), ("cut",)], ("cut",))
        self.refused(NoPlace, [], [], ("cut",))
        self.refused(NoPlace, [], [], ("put", 0, "a"))
        self.refused(Full, some_rows(1023), ahead, ("add", "z"))
        self.refused(NoRow, some_rows(1023), ahead, ("add", "Z"))

    def test_the_moves_of_two_books_done_to_a_third(self):
        ledger = Ledger()
        one, other, third = (Book(ledger, rows) for rows in (["a", "b", "c"], ["x"], ["d"]))
        with self.assertRaises(NoPlace):
            made(third, moves(one, other))
        self.assertEqual(third.rows(), [])
        far = Book(Ledger(), ["a", "b", "c"])
        made(far, moves(one, other))
        self.assertEqual(far.rows(), ["x"])


class Strangers(unittest.TestCase):
    def refused(self, one, other, many):
        for ask in (first_unlike, all_unlike, moves):
            for first, second in ((one, other), (other, one)):
                with self.assertRaises(Strange) as caught:
                    ask(first, second)
                self.assertIs(type(caught.exception), Strange)
        self.assertEqual([one.ledger.many(), other.ledger.many()], many)

    def test_books_of_two_ledgers(self):
        self.refused(Book(Ledger(), ["a", "b"]), Book(Ledger(), ["a", "c"]), [3, 3])
        self.refused(Book(Ledger(), ["a", "b"]), Book(Ledger(), ["c"]), [3, 1])

    def test_books_of_the_same_rows(self):
        for count in (1, 2, 7, 64):
            many = Book(Ledger(), some_rows(count)).ledger.many()
            self.refused(Book(Ledger(), some_rows(count)), Book(Ledger(), some_rows(count)), [many, many])

    def test_books_without_rows(self):
        self.refused(Book(Ledger(), []), Book(Ledger(), []), [0, 0])
        self.refused(Book(Ledger(), []), Book(Ledger(), ["a"]), [0, 1])

    def test_books_of_one_ledger_and_a_book_and_itself_are_no_strangers(self):
        for rows in ([], ["a"], some_rows(9)):
            one, other = two(rows, rows)
            for ask in (first_unlike, all_unlike, moves):
                ask(one, other), ask(one, one), ask(other, other)


class Nothing(unittest.TestCase):
    def test_nothing_is_asked_for_by_looks_and_moves(self):
        ledger = NotingLedger()
        for count in (0, 1, 5, 8, 23, 64):
            for other in (0, 3, 8, 30):
                books = Book(ledger, some_rows(count)), Book(ledger, changed(some_rows(other), 0, 2, 7))
                rows = [book.rows() for book in books]
                ledger.asked.clear()
                first_unlike(*books), all_unlike(*books), moves(*books), moves(*books[::-1])
                self.assertEqual(ledger.asked, [])
                self.assertEqual([book.rows() for book in books], rows)

    def test_each_look_is_at_a_block_that_both_have(self):
        for one, other, books in cases():
            for ask in (first_unlike, all_unlike):
                for height, number, _ in ask(*books)[1]:
                    self.assertLessEqual((number + 1) * 2 ** height, min(len(one), len(other)))

    def test_the_parts_are_among_the_looks_of_all(self):
        for one, other, books in cases():
            blocks = [look[:2] for look in all_unlike(*books)[1]]
            parts = parted(min(len(one), len(other)))
            self.assertEqual([block for block in blocks if block in parts], parts)

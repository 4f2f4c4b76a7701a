"""Point 5, and the interface's paragraph of twinsum/blocks.py."""

import unittest

from twinsum import blocks
from twinsum.blocks import digits, parted

POWERS = [2 ** height for height in range(21)]
GREAT = [10 ** 6, 10 ** 6 - 1, 999983, 699050, 349525, 123456, 500000, 65537 * 3]
COUNTS = list(range(2100)) + [power + by for power in POWERS for by in (-1, 0, 1)] + GREAT


class Interface(unittest.TestCase):
    def test_the_functions_stand_in_their_file(self):
        self.assertEqual(digits.__module__, "twinsum.blocks")
        self.assertEqual(parted.__module__, "twinsum.blocks")

    def test_the_names_of_the_arguments(self):
        self.assertEqual(blocks.digits(count=5), 3)
        self.assertEqual(blocks.parted(count=5), [(2, 0), (0, 4)])


class Digits(unittest.TestCase):
    def test_small_counts(self):
        told = [digits(count) for count in range(10)]
        self.assertEqual(told, [0, 1, 2, 2, 3, 3, 3, 3, 4, 4])
        self.assertEqual({type(one) for one in told}, {int})

    def test_powers_of_two_and_their_neighbours(self):
        for height in range(2, 21):
            with self.subTest(height):
                power = 2 ** height
                self.assertEqual([digits(power - 1), digits(power), digits(power + 1)],
                                 [height, height + 1, height + 1])

    def test_as_many_as_the_count_is_written_with(self):
        for count in COUNTS:
            if count > 0:
                self.assertEqual(digits(count), len(f"{count:b}"), count)


class Parted(unittest.TestCase):
    def test_small_counts(self):
        self.assertEqual(parted(0), [])
        self.assertEqual(parted(1), [(0, 0)])
        self.assertEqual(parted(2), [(1, 0)])
        self.assertEqual(parted(3), [(1, 0), (0, 2)])
        self.assertEqual(parted(4), [(2, 0)])
        self.assertEqual(parted(5), [(2, 0), (0, 4)])
        self.assertEqual(parted(6), [(2, 0), (1, 2)])
        self.assertEqual(parted(7), [(2, 0), (1, 2), (0, 6)])
        self.assertEqual(parted(11), [(3, 0), (1, 4), (0, 10)])

    def test_great_counts(self):
        self.assertEqual(parted(1023), [(9 - k, 2 ** (k + 1) - 2) for k in range(10)])
        self.assertEqual(parted(1024), [(10, 0)])
        self.assertEqual(parted(1025), [(10, 0), (0, 1024)])
        self.assertEqual(parted(10 ** 6), [(19, 0), (18, 2), (17, 6), (16, 14), (14, 60), (9, 1952), (6, 15624)])

    def test_a_power_of_two_is_one_part(self):
        for height in range(21):
            self.assertEqual(parted(2 ** height), [(height, 0)])

    def test_the_kinds_of_what_is_told(self):
        for count in COUNTS:
            parts = parted(count)
            self.assertIs(type(parts), list)
            for part in parts:
                self.assertIs(type(part), tuple)
                self.assertEqual([type(number) for number in part], [int, int])

    def test_the_parts_stand_one_behind_the_other_and_come_to_the_count(self):
        for count in COUNTS:
            place = 0
            for height, number in parted(count):
                self.assertEqual(number * 2 ** height, place, count)
                place += 2 ** height
            self.assertEqual(place, count)

    def test_the_heights_grow_less(self):
        for count in COUNTS:
            heights = [height for height, _ in parted(count)]
            self.assertEqual(heights, sorted(set(heights), reverse=True), count)

    def test_one_part_for_each_binary_digit_1(self):
        for count in COUNTS:
            written = f"{count:b}"[::-1]
            heights = [height for height in range(len(written)) if written[height] == "1"]
            self.assertEqual(len(parted(count)), written.count("1"), count)
            self.assertEqual([height for height, _ in parted(count)], heights[::-1], count)

    def test_a_list_told_is_the_askers_own(self):
        for count in (0, 1, 7, 8, 1023, 10 ** 6):
            with self.subTest(count):
                told = parted(count)
                ahead = list(told)
                again = parted(count)
                self.assertIsNot(told, again)
                told.append("more")
                told[0] = None
                self.assertEqual(again, ahead)
                self.assertEqual(parted(count), ahead)
                del again[:]
                self.assertEqual(parted(count), ahead)

    def test_a_list_that_was_changed_changes_no_other_count(self):
        ahead = [parted(count) for count in range(64)]
        for count in range(64):
            parted(count).clear()
            parted(count).append((9, 9))
        self.assertEqual([parted(count) for count in range(64)], ahead)

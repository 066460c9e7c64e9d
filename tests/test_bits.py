"""Point [5]: bits; and what [2] and [3] say of them."""

import random
import unittest

import plain
from chipbus.bits import gathered, ones_of, parts_of, spread
from chipbus.errors import BusError, TooMany

ALL_64 = 2 ** 64 - 1


def some_numbers(seed, many):
    chance = random.Random(seed)
    return [chance.getrandbits(64) & chance.getrandbits(64) for count in range(many)]


class TestOnes(unittest.TestCase):
    def test_ordinary(self):
        self.assertEqual(ones_of(0b10110), 3)
        self.assertEqual(ones_of(0xFFFF), 16)

    def test_none_and_all(self):
        self.assertEqual(ones_of(0), 0)
        self.assertEqual(ones_of(ALL_64), 64)

    def test_one_at_any_place(self):
        for place in range(64):
            self.assertEqual(ones_of(2 ** place), 1)
            self.assertEqual(ones_of(ALL_64 - 2 ** place), 63)

    def test_by_name(self):
        self.assertEqual(ones_of(mask=0b101), 2)

    def test_against_plain(self):
        for mask in list(range(300)) + some_numbers(1, 50):
            self.assertEqual(ones_of(mask), len(plain.places(mask)))


class TestGatheredAndSpread(unittest.TestCase):
    def test_gathered_ordinary(self):
        self.assertEqual(gathered(0b11010, 0b10010), 0b101)
        self.assertEqual(gathered(0b1100, 0b1011), 0b10)

    def test_spread_ordinary(self):
        self.assertEqual(spread(0b11010, 0b101), 0b10010)
        self.assertEqual(spread(0b1100, 0b10), 0b1000)

    def test_mask_of_no_one(self):
        for number in (0, 1, 77, ALL_64):
            self.assertEqual(gathered(0, number), 0)
            self.assertEqual(spread(0, number), 0)

    def test_mask_of_all_ones(self):
        for number in (0, 1, 77, 2 ** 63, ALL_64):
            self.assertEqual(gathered(ALL_64, number), number)
            self.assertEqual(spread(ALL_64, number), number)

    def test_mask_of_one_at_any_place(self):
        for place in range(64):
            single = 2 ** place
            self.assertEqual(gathered(single, single), 1)
            self.assertEqual(gathered(single, ALL_64), 1)
            self.assertEqual(gathered(single, ALL_64 - single), 0)
            self.assertEqual(spread(single, 1), single)
            self.assertEqual(spread(single, ALL_64), single)
            self.assertEqual(spread(single, ALL_64 - 1), 0)

    def test_bits_beyond_the_mask_are_left_out(self):
        self.assertEqual(gathered(0b0110, 0b11111001), 0)
        self.assertEqual(spread(0b0110, 0b11100), 0)
        self.assertEqual(spread(0b0110, 0b11101), 0b0010)

    def test_by_name(self):
        self.assertEqual(gathered(number=0b1000, mask=0b1100), 0b10)
        self.assertEqual(spread(number=0b10, mask=0b1100), 0b1000)

    def test_small_ones_against_plain(self):
        for mask in range(32):
            for number in range(64):
                self.assertEqual(gathered(mask, number), plain.gathered(mask, number))
                self.assertEqual(spread(mask, number), plain.spread(mask, number))

    def test_great_ones_against_plain(self):
        for mask, number in zip(some_numbers(2, 60), some_numbers(3, 60)):
            self.assertEqual(gathered(mask, number), plain.gathered(mask, number))
            self.assertEqual(spread(mask, number), plain.spread(mask, number))
            self.assertEqual(spread(mask, gathered(mask, number)), mask & number)


class TestParts(unittest.TestCase):
    def test_ordinary(self):
        self.assertEqual(parts_of(0b1010), [0, 0b10, 0b1000, 0b1010])

    def test_mask_of_no_one(self):
        self.assertEqual(parts_of(0), [0])

    def test_mask_of_one_at_any_place(self):
        for place in range(64):
            self.assertEqual(parts_of(2 ** place), [0, 2 ** place])

    def test_against_plain(self):
        for mask in range(130):
            self.assertEqual(parts_of(mask), [part for part in range(mask + 1) if part & mask == part])

    def test_twelve_ones(self):
        self.assertEqual(parts_of(0xFFF), list(range(4096)))
        mask = 0xA5A5A500_00000000
        parts = parts_of(mask)
        self.assertEqual(len(set(parts)), 4096)
        self.assertEqual(parts, sorted(parts))
        self.assertTrue(all(part & mask == part for part in parts))

    def test_thirteen_ones_and_more(self):
        for mask in (0x1FFF, 0xFFF + 2 ** 63, 0xFFFF, ALL_64):
            with self.assertRaises(TooMany) as caught:
                parts_of(mask)
            self.assertIs(caught.exception.__class__, TooMany)
            self.assertIsInstance(caught.exception, BusError)

    def test_by_name(self):
        self.assertEqual(parts_of(mask=1), [0, 1])
        with self.assertRaises(TooMany):
            parts_of(mask=0x1FFF)

    def test_told_list_is_the_asker_s_own(self):
        for mask in (0, 5, 0xFFF):
            told = parts_of(mask)
            kept = list(told)
            again = parts_of(mask)
            self.assertIsInstance(told, list)
            told.append(99)
            told[0] = -1
            self.assertEqual(again, kept)
            self.assertEqual(parts_of(mask), kept)


class TestBeyondTheLimits(unittest.TestCase):
    def test_greater_numbers_raise_nothing(self):
        mask = 2 ** 70 + 2 ** 64 + 1
        self.assertEqual(ones_of(mask), 3)
        self.assertEqual(gathered(mask, 2 ** 70 + 2), 0b100)
        self.assertEqual(spread(mask, 0b1010), 2 ** 64)
        self.assertEqual(parts_of(2 ** 70 + 1), [0, 1, 2 ** 70, 2 ** 70 + 1])

    def test_numbers_below_0_end_and_raise_nothing(self):
        for asked in (ones_of(-1), gathered(-1, 5), gathered(5, -1), spread(-1, 5), spread(5, -1)):
            self.assertIsInstance(asked, int)
        self.assertIsInstance(parts_of(-1), list)


class TestKinds(unittest.TestCase):
    def test_whole_numbers_are_no_truths(self):
        for told in (ones_of(0), ones_of(1), gathered(1, 1), gathered(1, 0), spread(1, 1), spread(1, 0)):
            self.assertIs(told.__class__, int)
        for told in parts_of(1):
            self.assertIs(told.__class__, int)


if __name__ == "__main__":
    unittest.main()

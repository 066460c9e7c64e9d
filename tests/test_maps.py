"""Points [6] and [7]: rows and maps; and what [2] and [3] say of them."""

import unittest

import made
import plain
from chipbus.errors import BusError, TooMany
from chipbus.maps import addresses_of, cell_at, is_map, is_row, meets

ROW = (0b1100, 0b0100, 0b0011, 5, (7, 0x0F, 0x05))
ZEROS = (0, 0, 0, 0, None)
MASK, WANT, INNER, CHIP, LATCH = range(5)


class Unlike:
    """A thing that refuses to be held against any other."""

    def __eq__(self, other):
        raise RuntimeError("asked")

    __hash__ = None


def deep(kind, depth):
    thing = kind()
    for level in range(depth - 1):
        thing = kind((thing,))
    return thing


ANYTHING = (None, True, False, 0, 1, -1, 2 ** 64, 10 ** 5000, 1.5, float("nan"), 1j, "", "abcde", b"", b"abcde",
            [], [1], {}, {1: 2}, set(), frozenset(), range(5), object(), object, len, Unlike(), NotImplemented, ...,
            [ROW], {ROW}, {ROW: ROW}, list(ROW), deep(tuple, 90), deep(list, 90), iter([ROW]))


def changed(row, place, value):
    parts = list(row)
    parts[place] = value
    return tuple(parts)


class TestIsRow(unittest.TestCase):
    def no_row(self, thing, bits=4):
        self.assertIs(is_row(bits, thing), False)
        self.assertIs(is_map(bits, (thing,)), False)
        self.assertIs(is_map(bits, (ZEROS, thing)), False)
        self.assertIs(is_map(bits, (thing, ZEROS)), False)

    def a_row(self, thing, bits=4):
        self.assertIs(is_row(bits, thing), True)
        self.assertIs(is_map(bits, (thing,)), True)
        self.assertIs(is_map(bits, (ZEROS, thing)), True)

    def test_ordinary(self):
        self.a_row(ROW)
        self.a_row(changed(ROW, LATCH, None))
        self.a_row((0, 0, 0, 0, None))
        self.a_row((15, 15, 0, 99, (99, 255, 255)))
        self.a_row((0, 0, 15, 0, (0, 0, 0)))
        self.a_row((0b1000, 0, 0b0001, 0, (0, 255, 0)))

    def test_one_bit(self):
        self.a_row((1, 1, 0, 0, None), bits=1)
        self.a_row((0, 0, 1, 0, None), bits=1)
        self.no_row((2, 0, 0, 0, None), bits=1)
        self.no_row((0, 0, 2, 0, None), bits=1)

    def test_sixteen_bits(self):
        self.a_row((0xFFFF, 0xFFFF, 0, 0, None), bits=16)
        self.a_row((0, 0, 0xFFFF, 0, None), bits=16)
        self.a_row((0xF000, 0xA000, 0x0FFF, 0, None), bits=16)
        self.no_row((0x10000, 0, 0, 0, None), bits=16)
        self.no_row((0, 0, 0x10000, 0, None), bits=16)

    def test_numbers_just_beyond_their_bounds(self):
        for bits in range(1, 17):
            beyond = 2 ** bits
            self.a_row((beyond - 1, beyond - 1, 0, 0, None), bits)
            self.a_row((0, 0, beyond - 1, 0, None), bits)
            self.no_row((beyond, 0, 0, 0, None), bits)
            self.no_row((beyond, beyond, 0, 0, None), bits)
            self.no_row((0, 0, beyond, 0, None), bits)
        for place in (MASK, WANT, INNER, CHIP):
            self.no_row(changed(ROW, place, -1))
            self.no_row(changed(ROW, place, -2 ** 63))
            self.no_row(changed(ROW, place, 2 ** 63))
        self.a_row(changed(ROW, CHIP, 99))
        self.no_row(changed(ROW, CHIP, 100))

    def test_a_truth_in_the_place_of_a_number(self):
        row = (1, 1, 0, 1, (1, 1, 1))
        self.a_row(row)
        for place in (MASK, WANT, CHIP):
            self.no_row(changed(row, place, True))
        self.no_row(changed(row, INNER, False))
        self.no_row((2, 0, True, 0, None))
        self.no_row((1, False, 0, 0, None))
        self.no_row((False, 0, 0, 0, None))
        self.no_row((0, 0, 0, False, None))
        for place in range(3):
            self.no_row(changed(row, LATCH, changed(row[LATCH], place, True)))
            self.no_row((0, 0, 0, 0, changed((0, 0, 0), place, False)))

    def test_a_want_with_a_one_that_its_mask_does_not_have(self):
        self.no_row((0b1100, 0b0101, 0, 0, None))
        self.no_row((0, 1, 0, 0, None))
        self.no_row((0b0111, 0b1000, 0, 0, None))
        self.no_row(changed(ROW, LATCH, (7, 0x0F, 0x15)))
        self.no_row(changed(ROW, LATCH, (7, 0, 1)))

    def test_an_inner_with_a_one_of_the_mask(self):
        self.no_row((0b1100, 0b0100, 0b0111, 0, None))
        self.no_row((0b1100, 0b0100, 0b1000, 0, None))
        self.no_row((1, 0, 1, 0, None))

    def test_a_list_in_the_place_of_a_tuple(self):
        self.no_row(list(ROW))
        self.no_row(changed(ROW, LATCH, [7, 0x0F, 0x05]))
        self.assertIs(is_map(4, [ROW]), False)
        self.assertIs(is_map(4, []), False)

    def test_a_part_too_many_or_too_few(self):
        self.no_row(())
        self.no_row(ROW[:4])
        self.no_row(ROW[1:])
        self.no_row(ROW + (None,))
        self.no_row(ROW + (0,))
        self.no_row(changed(ROW, LATCH, (7, 0x0F)))
        self.no_row(changed(ROW, LATCH, (7, 0x0F, 0x05, 0)))
        self.no_row(changed(ROW, LATCH, ()))

    def test_a_latch_that_is_none(self):
        for latch in ((-1, 1, 1), (100, 1, 1), (7, 256, 0), (7, 256, 256), (7, -1, 0), (7, 255, -1), (7, 255, 256)):
            self.no_row(changed(ROW, LATCH, latch))
        for latch in ((0, 1, 1), (99, 255, 255), (7, 255, 0), (7, 0, 0)):
            self.a_row(changed(ROW, LATCH, latch))

    def test_of_anything(self):
        for thing in ANYTHING:
            self.no_row(thing)
            for place in (MASK, WANT, INNER, CHIP, LATCH):
                if place == LATCH and thing is None or thing.__class__ is int and thing in (0, 1):
                    continue
                self.no_row(changed(ROW, place, thing))
            for place in range(3):
                if thing.__class__ is not int or thing not in (0, 1):
                    self.no_row(changed(ROW, LATCH, changed(ROW[LATCH], place, thing)))

    def test_by_name(self):
        self.assertIs(is_row(thing=ROW, bits=4), True)
        self.assertIs(is_row(thing=ROW, bits=3), False)
        self.assertIs(is_map(thing=(ROW,), bits=4), True)
        self.assertIs(is_map(thing=(ROW,), bits=3), False)

    def test_every_small_row_and_no_row(self):
        for mask in range(-1, 5):
            for want in range(-1, 5):
                for inner in range(-1, 5):
                    inside = all(0 <= number < 4 for number in (mask, want, inner))
                    ones = [set(plain.places(number)) for number in (mask, want, inner)] if inside else None
                    told = inside and ones[1] <= ones[0] and not ones[2] & ones[0]
                    self.assertIs(is_row(2, (mask, want, inner, 0, None)), told)


    def test_bits_beyond_the_limit_raise_nothing(self):
        for bits in (-1, 0, 17, 20):
            self.assertIs(is_map(bits, ()), True)
            self.assertIn(is_row(bits, ZEROS), (True, False))
            self.assertIs(is_row(bits, list(ROW)), False)
            self.assertIsInstance(addresses_of(bits, ZEROS, 1), list)


class TestIsMap(unittest.TestCase):
    def test_no_row_at_all(self):
        for bits in (1, 4, 16):
            self.assertIs(is_map(bits, ()), True)

    def test_many_rows(self):
        rows = made.split_map(seed=1, bits=16, many=60)
        self.assertEqual(len(rows), 60)
        self.assertIs(is_map(16, rows), True)
        self.assertIs(is_map(16, rows + rows), True)
        self.assertIs(is_map(16, rows + ((1, 2, 0, 0, None),)), False)
        self.assertIs(is_map(16, list(rows)), False)

    def test_a_row_is_no_map(self):
        self.assertIs(is_map(4, ROW), False)
        self.assertIs(is_map(4, ((ROW,),)), False)

    def test_a_row_of_more_bits_than_the_board(self):
        self.assertIs(is_map(4, (ROW,)), True)
        self.assertIs(is_map(3, (ROW,)), False)

    def test_of_anything(self):
        for thing in ANYTHING:
            self.assertIs(is_map(4, thing), False)


class TestMeetsAndCellAt(unittest.TestCase):
    def test_ordinary(self):
        told = [address for address in range(16) if meets(ROW, address)]
        self.assertEqual(told, [4, 5, 6, 7])
        self.assertEqual([cell_at(ROW, address) for address in told], [0, 1, 2, 3])

    def test_parted_inner(self):
        row = (0b00100, 0, 0b10010, 0, None)
        self.assertEqual([cell_at(row, address) for address in (0, 1, 2, 16, 18, 27)], [0, 0, 1, 2, 3, 3])

    def test_mask_of_no_one_meets_everywhere(self):
        self.assertTrue(all(meets((0, 0, 0, 0, None), address) is True for address in range(16)))

    def test_mask_of_all_ones_meets_once(self):
        row = (0xFFFF, 0x8001, 0, 0, None)
        self.assertEqual([address for address in range(2 ** 16) if meets(row, address)], [0x8001])

    def test_meeting_hangs_on_no_latch(self):
        self.assertIs(meets((1, 1, 0, 0, (0, 255, 255)), 1), True)
        self.assertIs(meets((1, 1, 0, 0, (0, 255, 255)), 2), False)

    def test_truths_and_numbers(self):
        self.assertIs(meets(ROW, 4), True)
        self.assertIs(meets(ROW, 8), False)
        self.assertIs(cell_at(ROW, 5).__class__, int)

    def test_by_name(self):
        self.assertIs(meets(address=6, row=ROW), True)
        self.assertEqual(cell_at(address=6, row=ROW), 2)

    def test_against_plain(self):
        for bits, rows in made.some_maps(seed=2, many=60, most_bits=6, most_rows=4):
            for row in rows:
                for address in range(2 ** bits):
                    self.assertEqual(meets(row, address), plain.meets(row, address))
                    self.assertEqual(cell_at(row, address), plain.gathered(row[INNER], address))


class TestAddressesOf(unittest.TestCase):
    def test_ordinary(self):
        row = (0b10000, 0b10000, 0b00101, 0, None)
        self.assertEqual(addresses_of(5, row, 0), [0b10000, 0b10010, 0b11000, 0b11010])
        self.assertEqual(addresses_of(5, row, 2), [0b10100, 0b10110, 0b11100, 0b11110])

    def test_just_one_address(self):
        self.assertEqual(addresses_of(4, ROW, 3), [7])
        self.assertEqual(addresses_of(16, (0xFFFF, 0xFFFF, 0, 0, None), 0), [0xFFFF])

    def test_one_bit(self):
        self.assertEqual(addresses_of(1, (0, 0, 0, 0, None), 0), [0, 1])
        self.assertEqual(addresses_of(1, (0, 0, 1, 0, None), 1), [1])
        self.assertEqual(addresses_of(1, (1, 1, 0, 0, None), 0), [1])

    def test_cell_that_the_row_never_shows(self):
        for cell in (-1, -2, -2 ** 63, 4, 5, 8, 2 ** 63):
            self.assertEqual(addresses_of(4, ROW, cell), [])
        self.assertEqual(addresses_of(4, (0, 0, 0, 0, None), 1), [])
        self.assertEqual(addresses_of(4, (0, 0, 0, 0, None), -1), [])

    def test_4096_addresses(self):
        row = (0xF000, 0x5000, 0, 0, None)
        self.assertEqual(addresses_of(16, row, 0), list(range(0x5000, 0x6000)))
        parted = (0x8000, 0x8000, 0x0111, 0, None)
        told = addresses_of(16, parted, 5)
        self.assertEqual(len(told), 4096)
        self.assertEqual(told, plain.addresses_of(16, parted, 5))

    def test_more_than_4096_addresses(self):
        for row, cell in (((0xE000, 0, 0, 0, None), 0), ((0x8000, 0, 0x0011, 0, None), 3), ((0, 0, 0, 0, None), 0)):
            with self.assertRaises(TooMany) as caught:
                addresses_of(16, row, cell)
            self.assertIs(caught.exception.__class__, TooMany)
            self.assertIsInstance(caught.exception, BusError)

    def test_a_cell_never_shown_goes_ahead_of_too_many(self):
        self.assertEqual(addresses_of(16, (0, 0, 0, 0, None), 1), [])
        self.assertEqual(addresses_of(16, (0, 0, 0, 0, None), -1), [])
        self.assertEqual(addresses_of(16, (0x8000, 0, 0x0011, 0, None), 4), [])

    def test_by_name(self):
        self.assertEqual(addresses_of(cell=1, row=ROW, bits=4), [5])

    def test_against_plain(self):
        for bits, rows in made.some_maps(seed=3, many=60, most_bits=6, most_rows=3):
            for row in rows:
                for cell in range(-1, 2 ** bits + 1):
                    self.assertEqual(addresses_of(bits, row, cell), plain.addresses_of(bits, row, cell))

    def test_told_list_is_the_asker_s_own(self):
        for cell in (0, 9):
            told = addresses_of(5, ROW, cell)
            kept = list(told)
            again = addresses_of(5, ROW, cell)
            self.assertIsInstance(told, list)
            told.append(99)
            told[0] = -1
            self.assertEqual(again, kept)
            self.assertEqual(addresses_of(5, ROW, cell), kept)


if __name__ == "__main__":
    unittest.main()

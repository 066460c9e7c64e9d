"""Points [4], [8] and [9]: clashes and who answers; and what [2] says of them."""

import itertools
import unittest

import made
import plain
from chipbus.clashes import answering, clash_of, least_hole, unanswered


def row(mask, want, latch=None):
    return (mask, want, 0, 0, latch)


def all_rows(bits):
    """A row without latch for each mask and want."""
    numbers = range(2 ** bits)
    return [row(mask, want) for mask in numbers for want in numbers if want & mask == want]


class TestClashOf(unittest.TestCase):
    def test_no_clash(self):
        self.assertIsNone(clash_of(()))
        self.assertIsNone(clash_of((row(0, 0),)))
        self.assertIsNone(clash_of((row(1, 0), row(1, 1))))
        self.assertIsNone(clash_of((row(0b110, 0b010), row(0b101, 0b101), row(0b011, 0b000))))

    def test_clash_without_latches(self):
        self.assertEqual(clash_of((row(0, 0), row(0, 0))), (0, 0, 1, ()))
        self.assertEqual(clash_of((row(0b100, 0b100), row(0b010, 0b010))), (0b110, 0, 1, ()))
        self.assertEqual(clash_of((row(1, 1), row(1, 0), row(0b100, 0))), (0, 1, 2, ()))

    def test_a_row_twice(self):
        self.assertEqual(clash_of((row(15, 9), row(15, 9))), (9, 0, 1, ()))

    def test_latches_of_one_chip(self):
        one, other = row(1, 1, (3, 0x0F, 0x05)), row(2, 2, (3, 0xF0, 0xA0))
        self.assertEqual(clash_of((one, other)), (3, 0, 1, ((3, 0xA5),)))
        self.assertIsNone(clash_of((one, row(2, 2, (3, 0xF1, 0xA0)))))
        self.assertEqual(clash_of((one, row(2, 2, (3, 0x01, 0x01)))), (3, 0, 1, ((3, 0x05),)))
        self.assertEqual(clash_of((one, row(2, 2, (3, 0, 0)))), (3, 0, 1, ((3, 0x05),)))
        self.assertEqual(clash_of((row(0, 0, (3, 255, 0)), row(0, 0, (3, 255, 0)))), (0, 0, 1, ((3, 0),)))

    def test_latches_of_two_chips(self):
        one, other = row(1, 1, (9, 0x0F, 0x05)), row(2, 2, (3, 0x0F, 0x0A))
        self.assertEqual(clash_of((one, other)), (3, 0, 1, ((3, 0x0A), (9, 0x05))))
        self.assertEqual(clash_of((other, one)), (3, 0, 1, ((3, 0x0A), (9, 0x05))))

    def test_one_latch_and_none(self):
        one, other = row(1, 1, (9, 0x0F, 0x05)), row(2, 2)
        self.assertEqual(clash_of((one, other)), (3, 0, 1, ((9, 0x05),)))
        self.assertEqual(clash_of((other, one)), (3, 0, 1, ((9, 0x05),)))

    def test_words_of_these_two_rows_alone(self):
        rows = (row(3, 0, (1, 1, 1)), row(3, 2, (2, 1, 1)), row(3, 2, (4, 1, 1)))
        self.assertEqual(clash_of(rows), (2, 1, 2, ((2, 1), (4, 1))))

    def test_the_row_s_own_chip_is_no_latch_s(self):
        one, other = (0, 0, 0, 3, (5, 1, 1)), (0, 0, 0, 5, None)
        self.assertEqual(clash_of((one, other)), (0, 0, 1, ((5, 1),)))

    def test_least_address_goes_ahead_of_the_first_pair(self):
        self.assertEqual(clash_of((row(7, 6), row(7, 6), row(7, 1), row(7, 1))), (1, 2, 3, ()))

    def test_pairs_at_one_address(self):
        self.assertEqual(clash_of((row(1, 1), row(1, 1), row(1, 1))), (1, 0, 1, ()))
        asleep = (row(0, 0, (0, 1, 0)), row(0, 0, (0, 1, 1)))
        self.assertEqual(clash_of(asleep + (row(0, 0),)), (0, 0, 2, ((0, 0),)))
        self.assertEqual(clash_of((asleep[0], row(1, 1), asleep[1], row(1, 0, (0, 1, 1)))), (0, 2, 3, ((0, 1),)))
        first = (row(1, 0, (0, 3, 0)), row(1, 0, (0, 3, 1)), row(1, 0, (0, 3, 1)), row(1, 0, (0, 3, 0)))
        self.assertEqual(clash_of(first), (0, 0, 3, ((0, 0),)))

    def test_inner_does_not_matter(self):
        self.assertEqual(clash_of(((1, 1, 6, 0, None), (2, 2, 4, 1, None))), (3, 0, 1, ()))

    def test_sixteen_bits_and_one(self):
        self.assertEqual(clash_of((row(0xFF00, 0xAB00), row(0x00FF, 0x00CD))), (0xABCD, 0, 1, ()))
        self.assertEqual(clash_of((row(1, 1), row(0, 0))), (1, 0, 1, ()))

    def test_dozens_of_rows_at_sixteen_bits(self):
        rows = made.split_map(seed=4, bits=16, many=72)
        self.assertIsNone(clash_of(rows))
        for number in (0, 30, 71):
            mask, want = rows[number][:2]
            last = (0xFFFF, want | (0xFFFF & ~mask), 0, 0, None)
            self.assertEqual(clash_of(rows + (last,)), (last[1], number, 72, ()))

    def test_by_name(self):
        self.assertEqual(clash_of(rows=(row(1, 1), row(0, 0))), (1, 0, 1, ()))

    def test_kinds(self):
        told = clash_of((row(1, 1, (2, 1, 1)), row(0, 0)))
        self.assertIs(told.__class__, tuple)
        self.assertIs(told[3].__class__, tuple)
        self.assertIs(told[3][0].__class__, tuple)
        for number in told[:3] + told[3][0]:
            self.assertIs(number.__class__, int)

    def test_every_three_small_rows_against_plain(self):
        for rows in itertools.product(all_rows(2), repeat=3):
            self.assertEqual(clash_of(rows), plain.clash_of(2, rows), rows)

    def test_every_two_rows_of_three_bits_against_plain(self):
        for rows in itertools.product(all_rows(3), repeat=2):
            self.assertEqual(clash_of(rows), plain.clash_of(3, rows), rows)

    def test_every_two_latches_against_plain(self):
        latches = [None] + [(chip, mask, want) for chip in (0, 1) for mask in range(4) for want in range(4)
                            if want & mask == want]
        for one, other in itertools.product(latches, repeat=2):
            rows = (row(1, 1, one), row(2, 0, other))
            self.assertEqual(clash_of(rows), plain.clash_of(2, rows), rows)

    def test_many_maps_against_plain(self):
        clashing = 0
        for bits, rows in made.some_maps(seed=5, many=500, most_bits=5, most_rows=5):
            told = clash_of(rows)
            self.assertEqual(told, plain.clash_of(bits, rows), rows)
            clashing += told is not None
        self.assertTrue(100 < clashing < 400, clashing)


LATCHED = (row(0b11, 0b00), row(0b11, 0b01, (3, 1, 1)), row(0b11, 0b01, (3, 1, 0)), row(0b11, 0b10, (8, 0x80, 0x80)))


def maps_without_clash(seed, many):
    return [(bits, rows) for bits, rows in made.some_maps(seed, many, most_bits=4, most_rows=5)
            if plain.clash_of(bits, rows) is None]


SOME_WORDS = [{}, {0: 3}, {1: 255}] + [{0: one, 1: other} for one in range(4) for other in range(4)]


class TestAnswering(unittest.TestCase):
    def told(self, rows, words):
        return [answering(rows, address, words) for address in range(4)]

    def test_no_rows(self):
        self.assertIsNone(answering((), 0, {}))

    def test_by_the_words(self):
        self.assertEqual(self.told(LATCHED, {3: 0, 8: 0}), [0, 2, None, None])
        self.assertEqual(self.told(LATCHED, {3: 1, 8: 0x80}), [0, 1, 3, None])
        self.assertEqual(self.told(LATCHED, {3: 0xFE, 8: 0x7F}), [0, 2, None, None])
        self.assertEqual(self.told(LATCHED, {3: 0xFF, 8: 0xFF}), [0, 1, 3, None])

    def test_a_chip_left_out_counts_as_0(self):
        self.assertEqual(self.told(LATCHED, {}), [0, 2, None, None])
        self.assertEqual(self.told(LATCHED, {8: 0x80}), [0, 2, 3, None])

    def test_a_chip_that_no_row_asks_counts_for_nothing(self):
        self.assertEqual(self.told(LATCHED, {0: 255, 1: 255, 99: 255}), [0, 2, None, None])

    def test_sixteen_bits(self):
        rows = made.split_map(seed=6, bits=16, many=40)
        for number, (mask, want, inner, chip, latch) in enumerate(rows):
            self.assertEqual(answering(rows, want, {}), number)
            self.assertEqual(answering(rows, want | inner, {}), number)

    def test_by_name(self):
        self.assertEqual(answering(words={3: 1}, address=1, rows=LATCHED), 1)

    def test_against_plain(self):
        for bits, rows in maps_without_clash(7, 200):
            for words in SOME_WORDS:
                for address in range(2 ** bits):
                    told = answering(rows, address, words)
                    self.assertEqual([] if told is None else [told], plain.all_answering(rows, address, words))


class TestHoles(unittest.TestCase):
    def check(self, bits, rows, words):
        holes = plain.holes(bits, rows, words)
        self.assertEqual(unanswered(bits, rows, words), len(holes), (rows, words))
        self.assertEqual(least_hole(bits, rows, words), holes[0] if holes else None, (rows, words))

    def test_no_rows(self):
        for bits in range(1, 17):
            self.assertEqual(unanswered(bits, (), {}), 2 ** bits)
            self.assertEqual(least_hole(bits, (), {}), 0)

    def test_ordinary(self):
        rows = (row(0b110, 0b000), row(0b101, 0b100))
        self.assertEqual(unanswered(3, rows, {}), 4)
        self.assertEqual(least_hole(3, rows, {}), 2)

    def test_one_bit(self):
        self.assertEqual((unanswered(1, (row(1, 0),), {}), least_hole(1, (row(1, 0),), {})), (1, 1))
        self.assertEqual((unanswered(1, (row(1, 1),), {}), least_hole(1, (row(1, 1),), {})), (1, 0))

    def test_bits_beyond_the_limit_raise_nothing(self):
        self.assertEqual((unanswered(17, (row(1, 0),), {}), least_hole(17, (row(1, 0),), {})), (2 ** 16, 1))
        for bits in (-1, 0):
            self.assertEqual((unanswered(bits, (), {}), least_hole(bits, (), {})), (1, 0))

    def test_no_address_is_unanswered(self):
        for bits, rows in ((1, (row(1, 0), row(1, 1))), (16, (row(0, 0),)), (16, (row(1, 1), row(1, 0))),
                           (2, (row(3, 3), row(3, 0), row(3, 2), row(3, 1))),
                           (16, made.split_map(seed=8, bits=16, many=48))):
            self.assertEqual(unanswered(bits, rows, {}), 0)
            self.assertIsNone(least_hole(bits, rows, {}))

    def test_by_the_words(self):
        self.assertEqual((unanswered(2, LATCHED, {}), least_hole(2, LATCHED, {})), (2, 2))
        self.assertEqual((unanswered(2, LATCHED, {8: 128}), least_hole(2, LATCHED, {8: 128})), (1, 3))
        self.assertEqual((unanswered(2, LATCHED[:2], {}), least_hole(2, LATCHED[:2], {})), (3, 1))
        full = LATCHED + (row(3, 3),)
        self.assertEqual((unanswered(2, full, {8: 255}), least_hole(2, full, {8: 255})), (0, None))
        self.assertEqual((unanswered(2, full, {3: 1}), least_hole(2, full, {3: 1})), (1, 2))

    def test_a_chip_that_no_row_asks_counts_for_nothing(self):
        words = {0: 255, 1: 255, 99: 255}
        self.assertEqual((unanswered(2, LATCHED, words), least_hole(2, LATCHED, words)), (2, 2))

    def test_each_single_hole(self):
        for hole in range(16):
            rows = tuple(row(15, address) for address in range(16) if address != hole)
            self.assertEqual((unanswered(4, rows, {}), least_hole(4, rows, {})), (1, hole))

    def test_the_last_address_alone(self):
        rows = tuple(row((2 << place) - 1, (1 << place) - 1) for place in range(16))
        self.assertEqual((unanswered(16, rows, {}), least_hole(16, rows, {})), (1, 0xFFFF))

    def test_dozens_of_rows_at_sixteen_bits(self):
        rows = made.split_map(seed=9, bits=16, many=60)
        met = [address for address in range(2 ** 16) for one in rows[:40] if address & one[0] == one[1]]
        left = sorted(set(range(2 ** 16)) - set(met))
        self.assertTrue(0 < len(left) < 2 ** 16)
        self.assertEqual(unanswered(16, rows[:40], {}), len(left))
        self.assertEqual(least_hole(16, rows[:40], {}), left[0])

    def test_by_name(self):
        self.assertEqual(unanswered(words={8: 128}, rows=LATCHED, bits=2), 1)
        self.assertEqual(least_hole(words={8: 128}, rows=LATCHED, bits=2), 3)

    def test_kinds(self):
        self.assertIs(unanswered(1, (row(1, 0),), {}).__class__, int)
        self.assertIs(least_hole(1, (row(1, 0),), {}).__class__, int)

    def test_against_plain(self):
        for bits, rows in maps_without_clash(10, 200):
            for words in SOME_WORDS:
                self.check(bits, rows, words)

    def test_every_small_map_without_latches_against_plain(self):
        for rows in itertools.product(all_rows(2), repeat=3):
            if plain.clash_of(2, rows) is None:
                self.check(2, rows, {})


class TestWordsHandedIn(unittest.TestCase):
    def test_they_are_not_changed(self):
        words = {8: 128, 50: 1}
        answering(LATCHED, 1, words)
        unanswered(2, LATCHED, words)
        least_hole(2, LATCHED, words)
        self.assertEqual(list(words.items()), [(8, 128), (50, 1)])

    def test_they_are_not_kept(self):
        words = {3: 1, 8: 128}
        asked = [lambda held: answering(LATCHED, 1, held), lambda held: answering(LATCHED, 2, held),
                 lambda held: unanswered(2, LATCHED, held), lambda held: least_hole(2, LATCHED, held)]
        self.assertEqual([ask(words) for ask in asked], [1, 3, 1, 3])
        words.clear()
        self.assertEqual([ask(words) for ask in asked], [2, None, 2, 2])
        self.assertEqual([ask({3: 1, 8: 128}) for ask in asked], [1, 3, 1, 3])
        words[8] = 255
        self.assertEqual([ask(words) for ask in asked], [2, 3, 1, 3])
        self.assertEqual([ask({}) for ask in asked], [2, None, 2, 2])


class TestTheWhole(unittest.TestCase):
    """Point [4], of maps: a true clash is told, or one row answers or none, whatever the latches hold."""

    def test_either_a_clash_or_at_most_one_answers(self):
        for bits, rows in made.some_maps(seed=11, many=300, most_bits=4, most_rows=4):
            told = clash_of(rows)
            if told is not None:
                address, first, second, words = told
                both = plain.all_answering(rows, address, dict(words))
                self.assertTrue(first < second and first in both and second in both, (rows, told))
                continue
            for words in SOME_WORDS:
                for address in range(2 ** bits):
                    self.assertLessEqual(len(plain.all_answering(rows, address, words)), 1, (rows, words))


if __name__ == "__main__":
    unittest.main()

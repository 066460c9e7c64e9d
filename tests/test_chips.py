"""Points [10] and [11]: chips; and what [2] and [3] say of them."""

import inspect
import random
import unittest

import made
import plain
from chipbus.chips import Fixed, Latch, Meter, Pipe, Store
from chipbus.errors import BusError, NoCell, NoChip, NoWord

NO_WORDS = (-1, 256, 257, 1000, -255, -256, 2 ** 64 - 1, 1 - 2 ** 64)
FAR_CELLS = (-2 ** 63, -4097, -4096, -3, -2, -1, 4096, 4097, 2 ** 63)


def filled(room, words):
    pipe = Pipe(room)
    for word in words:
        pipe.write(0, word)
    return pipe


def samples():
    """Some chips of each kind, no two of them equal, made anew at each call."""
    return [Store(1), Store(1, 7), Store(2), Store(3, 255), Store(4096, 1),
            Fixed([0]), Fixed([7]), Fixed([0, 0]), Fixed([1, 2, 3]), Fixed([9] * 4096),
            Latch(), Latch(7), Latch(255), Meter(), Meter(7), Meter(255),
            Pipe(), Pipe(1), Pipe(255), filled(1, [7]), filled(2, [7]), filled(2, [7, 0]), filled(2, [0, 7]),
            filled(2, [0]), filled(4, [1, 2, 3, 4]), filled(255, range(255))]


class TestInterface(unittest.TestCase):
    def check_parameters(self, thing, told):
        asked = inspect.signature(thing).parameters.values()
        self.assertEqual([(each.name, each.default) for each in asked], told)

    def test_making(self):
        none = inspect.Parameter.empty
        self.check_parameters(Store, [("cells", none), ("word", 0)])
        self.check_parameters(Fixed, [("words", none)])
        self.check_parameters(Latch, [("word", 0)])
        self.check_parameters(Meter, [("word", 0)])
        self.check_parameters(Pipe, [("room", 4)])

    def test_asking(self):
        for chip in samples():
            self.check_parameters(chip.read, [("cell", inspect.Parameter.empty)])
            self.check_parameters(chip.look, [("cell", inspect.Parameter.empty)])
            self.check_parameters(chip.write, [("cell", inspect.Parameter.empty), ("word", inspect.Parameter.empty)])
            self.check_parameters(chip.state, [])

    def test_by_name(self):
        self.assertEqual(Store(word=3, cells=2).state(), (3, 3))
        self.assertEqual(Fixed(words=[1, 2]).state(), (1, 2))
        self.assertEqual(Latch(word=3).state(), (3,))
        self.assertEqual(Meter(word=3).state(), (3,))
        self.assertEqual(str(Pipe(room=3)), "pipe 03")
        chip = Store(2)
        self.assertIsNone(chip.write(word=9, cell=1))
        self.assertEqual((chip.look(cell=1), chip.read(cell=1)), (9, 9))

    def test_kinds_of_values(self):
        for chip in samples():
            self.assertIs(type(chip.look(0)), int)
            self.assertIs(type(chip.read(0)), int)
            self.assertIsNone(chip.write(0, 5))
            self.assertIs(type(chip.state()), tuple)
            self.assertIs(type(len(chip)), int)
            self.assertIs(type(str(chip)), str)
            self.assertIs(type(chip == Latch()), bool)
            self.assertIs(type(chip == 3), bool)


class TestStore(unittest.TestCase):
    def test_at_first_all_one_word(self):
        self.assertEqual(Store(3).state(), (0, 0, 0))
        self.assertEqual(Store(3, 255).state(), (255, 255, 255))
        self.assertEqual(Store(1, 8).state(), (8,))

    def test_reads_and_writes_plainly(self):
        chip = Store(3, 9)
        chip.write(1, 200)
        chip.write(2, 0)
        self.assertEqual([chip.read(cell) for cell in range(3)], [9, 200, 0])
        self.assertEqual([chip.look(cell) for cell in range(3)], [9, 200, 0])
        chip.write(1, 255)
        self.assertEqual(chip.state(), (9, 255, 0))
        self.assertEqual(len(chip), 3)

    def test_the_most_cells(self):
        chip = Store(4096)
        chip.write(4095, 255)
        self.assertEqual(chip.read(4095), 255)
        self.assertEqual(chip.state(), (0,) * 4095 + (255,))
        self.assertEqual(len(chip), 4096)

    def test_each_store_has_its_own_cells(self):
        one, other = Store(2), Store(2)
        one.write(0, 5)
        self.assertEqual(other.state(), (0, 0))


class TestFixed(unittest.TestCase):
    def test_reads_the_told_words(self):
        chip = Fixed([0, 255, 7])
        self.assertEqual([chip.read(cell) for cell in range(3)], [0, 255, 7])
        self.assertEqual([chip.look(cell) for cell in range(3)], [0, 255, 7])
        self.assertEqual(chip.state(), (0, 255, 7))
        self.assertEqual(len(chip), 3)

    def test_writing_changes_nothing(self):
        chip = Fixed([1, 2])
        self.assertIsNone(chip.write(0, 9))
        self.assertIsNone(chip.write(1, 0))
        self.assertEqual(chip.state(), (1, 2))

    def test_the_list_that_is_handed_in_is_not_kept_or_changed(self):
        words = [1, 2, 3]
        chip = Fixed(words)
        chip.write(0, 9)
        self.assertEqual(words, [1, 2, 3])
        words[0] = 8
        words.append(4)
        self.assertEqual(chip.state(), (1, 2, 3))
        self.assertEqual(len(chip), 3)


class TestLatch(unittest.TestCase):
    def test_one_cell_and_one_word(self):
        chip = Latch()
        self.assertEqual((chip.read(0), chip.look(0), chip.state(), len(chip)), (0, 0, (0,), 1))
        chip.write(0, 255)
        self.assertEqual((chip.read(0), chip.read(0), chip.look(0), chip.state()), (255, 255, 255, (255,)))
        self.assertEqual(Latch(17).state(), (17,))


class TestMeter(unittest.TestCase):
    def test_reading_tells_and_then_adds_one(self):
        chip = Meter()
        self.assertEqual([chip.read(0) for count in range(4)], [0, 1, 2, 3])
        self.assertEqual((chip.look(0), chip.look(0), chip.state(), len(chip)), (4, 4, (4,), 1))

    def test_255_becomes_0(self):
        chip = Meter(254)
        self.assertEqual([chip.read(0) for count in range(4)], [254, 255, 0, 1])
        chip.write(0, 255)
        self.assertEqual((chip.look(0), chip.read(0), chip.state()), (255, 255, (0,)))

    def test_writing_sets(self):
        chip = Meter(3)
        chip.write(0, 100)
        self.assertEqual((chip.state(), chip.read(0), chip.state()), ((100,), 100, (101,)))


class TestPipe(unittest.TestCase):
    def test_words_come_out_in_order(self):
        chip = filled(4, [5, 6, 7])
        self.assertEqual((chip.state(), len(chip)), ((5, 6, 7), 2))
        self.assertEqual([chip.read(0) for count in range(2)], [5, 6])
        chip.write(0, 8)
        self.assertEqual(chip.state(), (7, 8))
        self.assertEqual([chip.read(0) for count in range(4)], [7, 8, 0, 0])
        self.assertEqual(chip.state(), ())

    def test_looking_takes_nothing_out(self):
        chip = filled(4, [5, 6])
        self.assertEqual([chip.look(0), chip.look(0), chip.look(1), chip.look(1)], [5, 5, 2, 2])
        self.assertEqual(chip.state(), (5, 6))

    def test_nothing_in_it(self):
        chip = Pipe()
        self.assertEqual([chip.look(0), chip.read(0), chip.look(1), chip.read(1)], [0, 0, 0, 0])
        self.assertEqual((chip.state(), len(chip)), ((), 2))

    def test_a_nought_in_it_is_a_word_like_others(self):
        chip = filled(3, [0, 0, 4])
        self.assertEqual([chip.read(1), chip.read(0), chip.read(1), chip.state()], [3, 0, 2, (0, 4)])

    def test_without_room_a_word_is_lost(self):
        chip = filled(2, [5, 6, 7, 8])
        self.assertEqual((chip.state(), chip.look(1)), ((5, 6), 2))
        chip.read(0)
        chip.write(0, 9)
        self.assertEqual(chip.state(), (6, 9))

    def test_room(self):
        self.assertEqual(filled(1, [3, 4]).state(), (3,))
        self.assertEqual(filled(255, list(range(256))).state(), tuple(range(255)))
        chip = Pipe()
        for word in range(6):
            chip.write(0, word)
        self.assertEqual(chip.state(), (0, 1, 2, 3))

    def test_cell_1_counts_and_empties(self):
        for word in (0, 1, 3, 255):
            chip = filled(4, [5, 6, 7])
            self.assertEqual([chip.read(1), chip.read(1), chip.state()], [3, 3, (5, 6, 7)])
            self.assertIsNone(chip.write(1, word))
            self.assertEqual([chip.state(), chip.read(1), chip.read(0)], [(), 0, 0])
            chip.write(1, word)
            self.assertEqual(chip.state(), ())
            chip.write(0, 9)
            self.assertEqual(chip.state(), (9,))

    def test_a_state_told_earlier_stays(self):
        chip = filled(3, [1, 2])
        told = chip.state()
        chip.read(0)
        chip.write(1, 0)
        self.assertEqual(told, (1, 2))


class TestNoChip(unittest.TestCase):
    def test_numbers_of_cells(self):
        for cells in (0, -1, -4096, 4097, 5000, 2 ** 63, -2 ** 63):
            self.assertRaises(NoChip, Store, cells)
            self.assertRaises(NoChip, Store, cells, 256)
        self.assertEqual((len(Store(1)), len(Store(4096))), (1, 4096))
        self.assertRaises(NoChip, Fixed, [])
        self.assertRaises(NoChip, Fixed, [0] * 4097)
        self.assertEqual((len(Fixed([0])), len(Fixed([0] * 4096))), (1, 4096))

    def test_words(self):
        for word in NO_WORDS:
            self.assertRaises(NoChip, Store, 2, word)
            self.assertRaises(NoChip, Latch, word)
            self.assertRaises(NoChip, Meter, word)
            for words in ([word], [word, 0], [0, word], [0, word, 0], [255] * 4095 + [word]):
                self.assertRaises(NoChip, Fixed, words)

    def test_room(self):
        for room in (0, -1, 256, 257, -255, 2 ** 63, -2 ** 63):
            self.assertRaises(NoChip, Pipe, room)
        self.assertEqual((str(Pipe(1)), str(Pipe(255))), ("pipe 01", "pipe ff"))

    def test_a_truth_is_no_number(self):
        for make in (Store, Latch, Meter, Pipe):
            self.assertRaises(NoChip, make, True)
        self.assertRaises(NoChip, Store, 2, False)
        self.assertRaises(NoChip, Fixed, [True])


class TestRefusedDeeds(unittest.TestCase):
    def refused(self, error, chip, deed, *handed):
        before = chip.state()
        with self.assertRaises(BusError) as caught:
            deed(*handed)
        self.assertIs(type(caught.exception), error)
        self.assertEqual(chip.state(), before)
        return caught.exception

    def test_no_cell(self):
        for chip in samples():
            for cell in {len(chip), len(chip) + 1} | set(FAR_CELLS):
                self.refused(NoCell, chip, chip.read, cell)
                self.refused(NoCell, chip, chip.look, cell)
                self.refused(NoCell, chip, chip.write, cell, 5)

    def test_no_cell_goes_ahead_of_no_word(self):
        for chip in samples():
            for word in NO_WORDS:
                self.refused(NoCell, chip, chip.write, len(chip), word)
                self.refused(NoCell, chip, chip.write, -1, word)

    def test_no_word_in_each_cell_whatever_the_writing_does(self):
        for chip in samples():
            for cell in {0, len(chip) - 1}:
                for word in NO_WORDS:
                    self.assertEqual(self.refused(NoWord, chip, chip.write, cell, word).word, word)

    def test_the_last_cell_and_the_last_word_are_let_by(self):
        for chip in samples():
            last = len(chip) - 1
            for word in (0, 255):
                self.assertIsNone(chip.write(last, word))
            self.assertIn(chip.look(last), range(256))
            self.assertIn(chip.read(last), range(256))


class Agreeing:
    def __eq__(self, other):
        return True


class TestEquality(unittest.TestCase):
    def test_of_the_samples_each_is_equal_to_its_like_alone(self):
        ones, others = samples(), samples()
        for k, one in enumerate(ones):
            for m, other in enumerate(others):
                self.assertIs(one == other, k == m, (str(one)[:40], str(other)[:40]))
                self.assertIs(one != other, k != m)

    def test_kinds_with_equal_states_are_unlike(self):
        alike = [Store(1, 3), Fixed([3]), Latch(3), Meter(3), filled(4, [3])]
        for k, one in enumerate(alike):
            for m, other in enumerate(alike):
                self.assertEqual(one.state(), other.state())
                self.assertIs(one == other, k == m)

    def test_a_pipe_s_room_counts(self):
        self.assertNotEqual(Pipe(3), Pipe(4))
        self.assertNotEqual(filled(3, [1]), filled(4, [1]))
        self.assertEqual(filled(3, [1]), filled(3, [1]))

    def test_it_goes_by_the_states_as_they_are_now(self):
        one, other = Meter(), Meter()
        one.read(0)
        self.assertNotEqual(one, other)
        other.read(0)
        self.assertEqual(one, other)
        one, other = filled(3, [1, 2]), filled(3, [0, 2])
        one.read(0)
        self.assertNotEqual(one, other)
        other.read(0)
        self.assertEqual(one, other)
        one, other = Store(2), Store(2, 1)
        other.write(0, 0)
        self.assertNotEqual(one, other)
        other.write(1, 0)
        self.assertEqual(one, other)

    def test_nothing_else_is_equal(self):
        for chip in samples():
            things = (None, True, False, 0, 7, len(chip), chip.state(), list(chip.state()), str(chip), "", {}, set(),
                      object(), type(chip), Agreeing())
            for thing in things:
                self.assertIs(chip == thing, False)
                self.assertIs(chip != thing, True)

    def test_asking_changes_nothing(self):
        for chip, same in zip(samples(), samples()):
            before = chip.state()
            self.assertTrue(chip == same)
            self.assertFalse(chip == 3)
            self.assertEqual((len(chip), str(chip)), (len(same), str(same)))
            self.assertEqual(chip.state(), before)


class TestText(unittest.TestCase):
    def test_each_kind(self):
        self.assertEqual(str(Store(3, 10)), "store 0a 0a 0a")
        self.assertEqual(str(Store(1)), "store 00")
        self.assertEqual(str(Fixed([0, 255, 16, 171])), "fixed 00 ff 10 ab")
        self.assertEqual(str(Latch()), "latch 00")
        self.assertEqual(str(Latch(205)), "latch cd")
        self.assertEqual(str(Meter(239)), "meter ef")
        self.assertEqual(str(Pipe()), "pipe 04")
        self.assertEqual(str(Pipe(255)), "pipe ff")
        self.assertEqual(str(filled(16, [1, 0, 200])), "pipe 10 01 00 c8")

    def test_every_word(self):
        for word in range(256):
            self.assertEqual(str(Latch(word)), "latch %02x" % word)

    def test_it_goes_by_the_state_as_it_is_now(self):
        chip = Meter(255)
        chip.read(0)
        self.assertEqual(str(chip), "meter 00")
        chip = filled(2, [1, 2])
        chip.read(0)
        self.assertEqual(str(chip), "pipe 02 02")


class TestAgainstPlainChips(unittest.TestCase):
    def test_many_deeds(self):
        chance = random.Random(10)
        for count in range(200):
            told = made.some_chip(chance)
            chip, model = made.built(told), plain.Chip(*told)
            for deed in range(40):
                cell, word = chance.randrange(model.cells()), chance.randrange(256)
                self.assertEqual(chip.look(cell), model.look(cell))
                if chance.randrange(5) < 2:
                    self.assertEqual(chip.read(cell), model.read(cell))
                elif cell == 0 or chance.randrange(4) == 0:
                    chip.write(cell, word)
                    model.write(cell, word)
                self.assertEqual(chip.state(), model.words)
            self.assertEqual((len(chip), str(chip)), (model.cells(), model.text()))


if __name__ == "__main__":
    unittest.main()

"""Point [4]: deeds on boards that share chips, held against plain boards."""

import random
import unittest

import made
import plain
from chipbus.boards import Board
from chipbus.clashes import clash_of
from chipbus.errors import Clash


class Pair:
    """A board of the program and a plain one, made alike, to which all is done alike."""

    def __init__(self, test, chance, told, order, chips, models):
        self.test = test
        self.chance = chance
        self.bits = chance.randint(2, 5)
        told = [told[place] for place in order]
        rows = made.some_fitting_map(chance, self.bits, told, 6)
        floating = chance.randrange(256)
        self.board = Board(self.bits, rows, [chips[place] for place in order], floating)
        self.model = plain.Board(self.bits, rows, [models[place] for place in order], floating)
        self.watches = []

    def deed(self):
        address = self.chance.randrange(2 ** self.bits)
        choice = self.chance.randrange(12)
        if choice < 4:
            self.test.assertEqual(self.board.read(address), self.model.read(address))
        elif choice < 8:
            word = self.chance.choice((0, 1, 2, 3, self.chance.randrange(256)))
            self.board.write(address, word)
            self.model.write(address, word)
        elif choice < 9:
            self.test.assertEqual(self.board.read(address, True), self.model.look(address))
        elif choice < 10:
            self.watch()
        elif self.watches:
            self.ask(self.chance.choice(self.watches))

    def watch(self):
        mask, want = self.chance.getrandbits(self.bits), self.chance.getrandbits(self.bits)
        kind = self.chance.choice(("read", "write", "both"))
        handed = (mask, want & mask if self.chance.randrange(4) else want, kind)
        number = self.board.watch(*handed)
        self.test.assertEqual(number, self.model.watch(*handed))
        self.watches.append(number)

    def ask(self, number):
        self.test.assertEqual(self.board.news(number), self.model.news(number))
        if self.chance.randrange(3) == 0:
            self.board.unwatch(number)
            self.watches.remove(number)

    def compare(self):
        told = [self.board.who(at) for at in range(2 ** self.bits)]
        self.test.assertEqual(told, [self.model.who(at) for at in range(2 ** self.bits)])
        told = [self.board.read(at, True) for at in range(2 ** self.bits)]
        self.test.assertEqual(told, [self.model.look(at) for at in range(2 ** self.bits)])
        self.test.assertEqual(self.board.floats(), self.model.floating)
        for number in self.watches:
            self.test.assertEqual(self.board.news(number), self.model.news(number))


class TestDeeds(unittest.TestCase):
    def check(self, seed):
        chance = random.Random(seed)
        told = [made.some_chip(chance) for count in range(chance.randint(1, 6))] + [("latch", (0,), None)]
        chips, models = [made.built(each) for each in told], [plain.Chip(*each) for each in told]
        places = list(range(len(told)))
        pairs = []
        for count in range(2):
            chance.shuffle(places)
            pairs.append(Pair(self, chance, told, list(places), chips, models))
        for count in range(80):
            chance.choice(pairs).deed()
            self.assertEqual([chip.state() for chip in chips], [model.words for model in models])
        for pair in pairs:
            pair.compare()

    def test_boards_that_share_chips(self):
        for seed in range(150):
            with self.subTest(seed=seed):
                self.check(seed)


class TestMaps(unittest.TestCase):
    def test_either_a_clash_is_told_or_the_board_is_made(self):
        chance = random.Random(4)
        clashes = 0
        for count in range(300):
            bits = chance.randint(1, 4)
            told = [made.some_chip(chance) for place in range(4)]
            rows = tuple(made.some_fitting_row(chance, bits, told) for place in range(chance.randint(0, 4)))
            chips = [made.built(each) for each in told]
            clash = plain.clash_of(bits, rows)
            self.assertEqual(clash_of(rows), clash)
            if clash is None:
                self.assertEqual(Board(bits, rows, chips).rows_of(), rows)
            else:
                clashes += 1
                with self.assertRaises(Clash) as caught:
                    Board(bits, rows, chips)
                refused = caught.exception
                self.assertEqual((refused.address, refused.first, refused.second, refused.words), clash)
        self.assertIn(clashes, range(50, 250))


if __name__ == "__main__":
    unittest.main()

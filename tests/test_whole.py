"""Point [4]: deeds of hands, movers and runs on boards that share chips, held against plain boards."""

import random
import unittest

import made
import plain
import plain_texts
from chipbus.boards import Board
from chipbus.clashes import clash_of
from chipbus.errors import Clash, NoMover
from chipbus.movers import Mover, turns
from chipbus.runs import run
from chipbus.writings import read_board, show_board


class Pair:
    """A board of the program and a plain one, made alike, to which all is done alike."""

    def __init__(self, test, chance, board, model):
        self.test = test
        self.chance = chance
        self.bits = model.bits
        self.board = board
        self.model = model
        self.watches = []
        self.movers = []
        self.models = []
        self.deeds = (self.read, self.read, self.read, self.write, self.write, self.write, self.look, self.watch,
                      self.ask, self.ask, self.set_mover, self.turn, self.turn, self.turns, self.run)

    def deed(self):
        self.chance.choice(self.deeds)()

    def some_address(self):
        return self.chance.randrange(2 ** self.bits)

    def some_word(self):
        return self.chance.choice((0, 1, 2, 3, self.chance.randrange(256)))

    def some_step(self):
        return self.chance.choice((0, 1, 1, -1, 2, self.chance.randint(-100, 100)))

    def read(self):
        address = self.some_address()
        self.test.assertEqual(self.board.read(address), self.model.read(address))

    def write(self):
        address, word = self.some_address(), self.some_word()
        self.board.write(address, word)
        self.model.write(address, word)

    def look(self):
        address = self.some_address()
        self.test.assertEqual(self.board.read(address, True), self.model.look(address))

    def watch(self):
        mask, want = self.chance.getrandbits(self.bits), self.chance.getrandbits(self.bits)
        kind = self.chance.choice(("read", "write", "both"))
        handed = (mask, want & mask if self.chance.randrange(4) else want, kind)
        number = self.board.watch(*handed)
        self.test.assertEqual(number, self.model.watch(*handed))
        self.watches.append(number)

    def ask(self):
        if not self.watches:
            return
        number = self.chance.choice(self.watches)
        self.test.assertEqual(self.board.news(number), self.model.news(number))
        if self.chance.randrange(3) == 0:
            self.board.unwatch(number)
            self.watches.remove(number)

    def set_mover(self):
        handed = (self.some_address(), self.some_address(), self.chance.randrange(6), self.some_step(), self.some_step())
        self.movers.append(Mover(self.board, *handed))
        self.models.append(plain.Mover(self.model, *handed))

    def turn(self):
        if self.movers:
            place = self.chance.randrange(len(self.movers))
            self.test.assertEqual(self.movers[place].turn(), self.models[place].turn())

    def turns(self):
        order = [self.chance.randint(0, len(self.movers)) for count in range(self.chance.randrange(6))]
        if len(self.movers) in order:
            self.test.assertRaises(NoMover, turns, self.movers, order)
        else:
            self.test.assertEqual(turns(self.movers, order), [self.models[place].turn() for place in order])

    def run(self):
        rows = ["m %x %x %d" % (self.some_address(), self.some_address(), self.chance.randrange(6))]
        for count in range(self.chance.randrange(8)):
            rows.append(self.chance.choice((
                "r %x" % self.some_address(), "q %02x" % self.some_address(), "t 0",
                "w %04x %02x" % (self.some_address(), self.some_word()),
                "m %x %x 3 %d %d" % (self.some_address(), self.some_address(), self.some_step(), self.some_step()))))
        text = "\n".join(rows)
        self.test.assertEqual(run(self.board, text), plain_texts.run(self.model, text))

    def copied(self):
        """A pair that goes on from this one's text, with chips of its own."""
        text = show_board(self.board)
        self.test.assertEqual(text, plain_texts.text_of(self.model))
        board = read_board(text)
        self.test.assertEqual((board.chips_of(), show_board(board)), (self.board.chips_of(), text))
        chips = [plain.Chip(chip.kind, chip.words, chip.room) for chip in self.model.chips]
        model = plain.Board(self.bits, self.model.rows, chips, self.model.floating)
        return Pair(self.test, self.chance, board, model)

    def compare(self):
        self.test.assertEqual([chip.state() for chip in self.board.chips_of()], [chip.words for chip in self.model.chips])
        self.test.assertEqual(self.board.floats(), self.model.floating)
        self.test.assertEqual([(mover.left(), mover.places()) for mover in self.movers],
                              [(mover.many, (mover.source, mover.target)) for mover in self.models])

    def compare_all(self):
        self.compare()
        told = [self.board.who(at) for at in range(2 ** self.bits)]
        self.test.assertEqual(told, [self.model.who(at) for at in range(2 ** self.bits)])
        told = [self.board.read(at, True) for at in range(2 ** self.bits)]
        self.test.assertEqual(told, [self.model.look(at) for at in range(2 ** self.bits)])
        for number in self.watches:
            self.test.assertEqual(self.board.news(number), self.model.news(number))


class TestDeeds(unittest.TestCase):
    def sharing(self, chance, told, chips, models):
        """A pair of boards over these chips, in some order."""
        order = list(range(len(told)))
        chance.shuffle(order)
        bits, floating = chance.randint(2, 5), chance.randrange(256)
        rows = made.some_fitting_map(chance, bits, [told[place] for place in order], 6)
        board = Board(bits, rows, [chips[place] for place in order], floating)
        return Pair(self, chance, board, plain.Board(bits, rows, [models[place] for place in order], floating))

    def check(self, seed):
        chance = random.Random(seed)
        told = [made.some_chip(chance) for count in range(chance.randint(1, 6))] + [("latch", (0,), None)]
        chips, models = [made.built(each) for each in told], [plain.Chip(*each) for each in told]
        pairs = [self.sharing(chance, told, chips, models) for count in range(2)]
        for count in range(120):
            if count in (40, 80):
                copy = pairs[chance.randrange(2)].copied()
                told = [(chip.kind, chip.words, chip.room) for chip in copy.model.chips]
                pairs += [copy, self.sharing(chance, told, copy.board.chips_of(), copy.model.chips)]
            chance.choice(pairs).deed()
            for pair in pairs:
                pair.compare()
        for pair in pairs:
            pair.compare_all()

    def test_boards_that_share_chips(self):
        for seed in range(150):
            with self.subTest(seed=seed):
                self.check(seed)


class TestMaps(unittest.TestCase):
    def test_either_a_clash_is_told_or_the_board_is_made(self):
        chance = random.Random(4)
        clashes = 0
        for count in range(300):
            bits = chance.randint(1, 4)
            told = [made.some_chip(chance) for place in range(4)]
            rows = tuple(made.some_fitting_row(chance, bits, told) for place in range(chance.randint(0, 4)))
            chips = [made.built(each) for each in told]
            clash = plain.clash_of(bits, rows)
            self.assertEqual(clash_of(rows), clash)
            if clash is None:
                self.assertEqual(Board(bits, rows, chips).rows_of(), rows)
            else:
                clashes += 1
                with self.assertRaises(Clash) as caught:
                    Board(bits, rows, chips)
                refused = caught.exception
                self.assertEqual((refused.address, refused.first, refused.second, refused.words), clash)
        self.assertIn(clashes, range(50, 250))


if __name__ == "__main__":
    unittest.main()

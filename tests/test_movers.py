"""Points [15] and [16]: movers and their turns; and what [2] and [3] say of them."""

import itertools
import unittest

from cases import Case, put, some_board, states
from chipbus.boards import Board
from chipbus.chips import Fixed, Latch, Meter, Pipe, Store
from chipbus.errors import NoAddress, NoMover
from chipbus.movers import Mover, turns

NO_ADDRESSES = (-1, 16, 17, -16, 2 ** 64 - 1, 1 - 2 ** 64)
STEPS = (0, 1, -1, 2, -3, 5, 15, -15, 16, -16, 17, -17, 100, -1000, 2 ** 63 + 1, 1 - 2 ** 64)


def store_board(bits=4, word=0):
    """A store over all addresses."""
    every = 2 ** bits - 1
    return Board(bits, ((0, 0, every, 0, None),), [Store(2 ** bits, word)])


def counted_board():
    """A fixed one over the addresses 0 to 15 that holds 100 to 115."""
    return Board(4, ((0, 0, 15, 0, None),), [Fixed(list(range(100, 116)))])


class TestInterface(Case):
    def test_parameters(self):
        self.check_parameters(Mover, "board", "source", "target", "many", ("step", 1), ("by", 1))
        mover = Mover(store_board(), 0, 1, 2)
        for asked in (mover.turn, mover.left, mover.places):
            self.check_parameters(asked)
        self.check_parameters(turns, "movers", "order")

    def test_by_name(self):
        mover = Mover(by=3, step=2, many=4, target=6, source=5, board=counted_board())
        self.assertEqual(turns(order=[0], movers=[mover]), [(5, 6, 105)])
        self.assertEqual(mover.places(), (7, 9))
        mover = Mover(counted_board(), 5, 6, 4, by=3)
        mover.turn()
        self.assertEqual(mover.places(), (6, 9))

    def test_by_place_the_source_s_step_goes_first(self):
        mover = Mover(counted_board(), 5, 6, 4, 2, 3)
        mover.turn()
        self.assertEqual(mover.places(), (7, 9))

    def test_kinds_of_what_is_told(self):
        mover = Mover(counted_board(), 1, 2, 1)
        self.assertIs(type(mover.places()), tuple)
        self.assertIs(type(mover.left()), int)
        self.assertIs(type(mover.turn()), tuple)
        self.assertIs(type(turns([mover], [0])), list)


class TestMaking(Case):
    def test_nothing_is_done_yet(self):
        board = some_board()
        number = board.watch(0, 0)
        mover = Mover(board, 9, 10, 3)
        self.assertEqual((mover.left(), mover.places()), (3, (9, 10)))
        self.assertEqual((board.news(number), states(board)), ([], states(some_board())))

    def test_no_address(self):
        board = some_board()
        for address in NO_ADDRESSES:
            self.assertEqual(self.refused(NoAddress, Mover, board, address, 0, 1).address, address)
            self.assertEqual(self.refused(NoAddress, Mover, board, 0, address, 1).address, address)
            self.assertEqual(self.refused(NoAddress, Mover, board, 15, address, 0, 5, 5).address, address)

    def test_the_source_s_refusal_goes_first(self):
        board = some_board()
        for source, target in itertools.permutations(NO_ADDRESSES, 2):
            self.assertEqual(self.refused(NoAddress, Mover, board, source, target, 1).address, source)

    def test_what_is_refused_changes_nothing(self):
        board = some_board()
        number = board.watch(0, 0)
        self.refused(NoAddress, Mover, board, 9, 16, 1)
        self.assertEqual((board.news(number), board.floats(), states(board)), ([], 0, states(some_board())))

    def test_first_and_last_address_of_each_size(self):
        for bits in range(1, 17):
            board = Board(bits, (), [])
            last = 2 ** bits - 1
            self.assertEqual(Mover(board, 0, last, 1).places(), (0, last))
            self.assertEqual(Mover(board, last, 0, 1).places(), (last, 0))
            self.assertEqual(self.refused(NoAddress, Mover, board, last + 1, 0, 1).address, last + 1)
            self.assertEqual(self.refused(NoAddress, Mover, board, 0, last + 1, 1).address, last + 1)


class TestTurns(Case):
    def test_reads_then_writes_then_steps(self):
        board = store_board()
        put(board, (2, 20), (3, 30), (4, 40))
        number = board.watch(0, 0)
        mover = Mover(board, 2, 9, 3)
        self.assertEqual([mover.turn() for count in range(3)], [(2, 9, 20), (3, 10, 30), (4, 11, 40)])
        self.assertEqual(board.news(number), [("read", 2, 20), ("write", 9, 20), ("read", 3, 30), ("write", 10, 30),
                                              ("read", 4, 40), ("write", 11, 40)])
        self.assertEqual([board.read(at) for at in range(9, 13)], [20, 30, 40, 0])

    def test_how_many_are_left(self):
        mover = Mover(store_board(), 0, 8, 3)
        told = []
        for count in range(5):
            told.append((mover.left(), mover.places()))
            mover.turn()
        self.assertEqual(told, [(3, (0, 8)), (2, (1, 9)), (1, (2, 10)), (0, (3, 11)), (0, (3, 11))])

    def test_where_none_are_left_nothing_is_done(self):
        board = some_board()
        put(board, (10, 5))
        mover = Mover(board, 9, 10, 1, 0, 0)
        mover.turn()
        board.write(15, 99)
        before = states(board)
        number = board.watch(0, 0)
        for count in range(3):
            self.assertIsNone(mover.turn())
        self.assertEqual((states(board), board.floats(), board.news(number)), (before, 99, []))
        self.assertEqual((mover.left(), mover.places()), (0, (9, 10)))

    def test_no_words_to_move(self):
        board = some_board()
        mover = Mover(board, 9, 8, 0)
        self.assertIsNone(mover.turn())
        self.assertEqual((mover.left(), mover.places(), states(board)), (0, (9, 8), states(some_board())))

    def test_fewer_than_no_words_to_move(self):
        # The document tells of no refusal for it.
        board = some_board()
        mover = Mover(board, 9, 8, -2)
        self.assertIsNone(mover.turn())
        self.assertEqual((mover.left(), mover.places(), states(board)), (0, (9, 8), states(some_board())))

    def test_very_many_words_to_move(self):
        mover = Mover(store_board(), 0, 0, 2 ** 64 - 1)
        for count in range(1000):
            self.assertIsNotNone(mover.turn())
        self.assertEqual(mover.left(), 2 ** 64 - 1001)

    def test_steps_round_the_addresses(self):
        for step, by in itertools.product(STEPS, STEPS):
            mover = Mover(counted_board(), 3, 12, 40, step, by)
            for count in range(40):
                source, target = (3 + count * step) % 16, (12 + count * by) % 16
                self.assertEqual(mover.places(), (source, target))
                self.assertEqual(mover.turn(), (source, target, 100 + source))
            self.assertEqual((mover.places(), mover.left()), (((3 + 40 * step) % 16, (12 + 40 * by) % 16), 0))

    def test_round_the_addresses_of_each_size(self):
        for bits in range(1, 17):
            last = 2 ** bits - 1
            mover = Mover(Board(bits, (), []), last, 0, 2, 1, -1)
            self.assertEqual(mover.turn(), (last, 0, 0))
            self.assertEqual(mover.places(), (0, last))
            mover.turn()
            self.assertEqual(mover.places(), (1 % (last + 1), last - 1))

    def test_a_word_is_carried_along(self):
        board = store_board()
        board.write(0, 7)
        mover = Mover(board, 0, 1, 15)
        for count in range(15):
            mover.turn()
        self.assertEqual(states(board), [(7,) * 16])

    def test_other_deeds_stand_in_between(self):
        board = store_board()
        mover = Mover(board, 0, 8, 4)
        mover.turn()
        board.write(1, 11)
        self.assertEqual(mover.turn(), (1, 9, 11))
        board.write(9, 12)
        board.write(2, board.read(9))
        self.assertEqual(mover.turn(), (2, 10, 12))

    def test_movers_are_each_for_themselves(self):
        board = counted_board()
        one, other = Mover(board, 0, 0, 2), Mover(board, 0, 0, 2, -1, -1)
        one.turn()
        self.assertEqual((one.places(), other.places(), one.left(), other.left()), ((1, 1), (0, 0), 1, 2))


class TestChips(Case):
    """Sources and targets of every kind, on the board of cases.py."""

    def test_source_is_a_meter(self):
        board = some_board()
        mover = Mover(board, 9, 0, 3, 0, 1)
        self.assertEqual([mover.turn() for count in range(3)], [(9, 0, 7), (9, 1, 8), (9, 2, 9)])
        self.assertEqual((states(board)[0], states(board)[3]), ((7, 8, 9, 16), (10,)))

    def test_target_is_a_meter(self):
        board = some_board()
        self.assertEqual(Mover(board, 12, 9, 1).turn(), (12, 9, 0x51))
        self.assertEqual(board.read(9), 0x51)

    def test_a_meter_onto_itself(self):
        board = some_board()
        mover = Mover(board, 9, 9, 3, 0, 0)
        self.assertEqual([mover.turn() for count in range(3)], [(9, 9, 7)] * 3)
        self.assertEqual(states(board)[3], (7,))

    def test_target_is_a_pipe(self):
        board = some_board()
        mover = Mover(board, 9, 10, 5, 0, 0)
        for count in range(5):
            mover.turn()
        self.assertEqual(states(board)[4], (7, 8, 9))
        self.assertEqual(Mover(board, 9, 11, 1).turn(), (9, 11, 12))
        self.assertEqual(states(board)[4], ())

    def test_source_is_a_pipe(self):
        board = some_board()
        put(board, (10, 5), (10, 6))
        self.assertEqual(Mover(board, 11, 3, 1).turn(), (11, 3, 2))
        mover = Mover(board, 10, 0, 3, 0, 1)
        self.assertEqual([mover.turn()[2] for count in range(3)], [5, 6, 0])
        self.assertEqual((states(board)[0], states(board)[4]), ((5, 6, 0, 2), ()))

    def test_a_full_pipe_onto_itself_goes_round(self):
        board = some_board()
        put(board, (10, 1), (10, 2), (10, 3))
        Mover(board, 10, 10, 1).turn()
        self.assertEqual(states(board)[4], (2, 3, 1))

    def test_target_is_a_fixed_one(self):
        board = some_board()
        self.assertEqual(Mover(board, 0, 12, 1).turn(), (0, 12, 0x10))
        self.assertEqual((states(board)[5], board.floats()), ((0x51, 0x52), 0x10))

    def test_target_is_a_latch_that_a_later_turn_goes_by(self):
        board = some_board()
        board.write(0, 1)
        mover = Mover(board, 0, 8, 2, 4, -1)
        self.assertEqual(mover.turn(), (0, 8, 1))
        self.assertEqual(board.who(4), (1, 0))
        self.assertEqual(mover.turn(), (4, 7, 0x20))
        self.assertEqual(states(board)[1], (0x20,) * 4)

    def test_source_is_a_latch(self):
        board = some_board()
        board.write(8, 0xfe)
        self.assertEqual(Mover(board, 8, 3, 1).turn(), (8, 3, 0xfe))
        self.assertEqual(states(board)[0], (0x10, 0x10, 0x10, 0xfe))

    def test_a_latch_is_written_in_the_turn_that_it_let_read(self):
        # The row at 4 answers by the word 1; the turn reads 0x20 there and so switches it off.
        board = some_board()
        board.write(8, 1)
        mover = Mover(board, 4, 8, 2, 0, 0)
        self.assertEqual(mover.turn(), (4, 8, 0x20))
        self.assertIsNone(board.who(4))
        self.assertEqual(mover.turn(), (4, 8, 0x20))

    def test_where_no_row_answers(self):
        board = Board(4, (), [], 0x77)
        number = board.watch(0, 0)
        self.assertEqual(Mover(board, 1, 2, 1).turn(), (1, 2, 0x77))
        self.assertEqual(board.news(number), [("read", 1, 0x77), ("write", 2, 0x77)])
        board = some_board()
        board.write(3, 0x33)
        self.assertEqual(Mover(board, 14, 1, 1).turn(), (14, 1, 0x33))
        self.assertEqual(Mover(board, 12, 15, 1).turn(), (12, 15, 0x51))
        self.assertEqual((states(board)[0], board.floats()), ((0x10, 0x33, 0x10, 0x33), 0x51))

    def test_boards_that_share_a_chip(self):
        chip = Pipe(4)
        one, other = (Board(1, ((0, 0, 1, 0, None),), [chip], word) for word in (1, 2))
        Mover(one, 1, 0, 1).turn()
        mover = Mover(other, 0, 0, 9, 0, 0)
        one.write(0, 9)
        self.assertEqual([mover.turn(), mover.turn(), mover.turn()], [(0, 0, 0), (0, 0, 9), (0, 0, 0)])
        self.assertEqual(chip.state(), (9, 0))
        self.assertEqual((one.floats(), other.floats()), (9, 0))


class TestWatches(Case):
    def test_each_watch_hears_its_part_of_a_turn(self):
        board = some_board()
        reads, writes, store = board.watch(0, 0, "read"), board.watch(0, 0, "write"), board.watch(12, 0)
        mover = Mover(board, 9, 0, 2, 0, 1)
        turns([mover], [0, 0, 0])
        self.assertEqual(board.news(reads), [("read", 9, 7), ("read", 9, 8)])
        self.assertEqual(board.news(writes), [("write", 0, 7), ("write", 1, 8)])
        self.assertEqual(board.news(store), [("write", 0, 7), ("write", 1, 8)])

    def test_no_watch_of_another_board_hears(self):
        chip = Meter()
        one, other = (Board(1, ((0, 0, 0, 0, None),), [chip]) for count in range(2))
        number = other.watch(0, 0)
        Mover(one, 0, 1, 1).turn()
        self.assertEqual(other.news(number), [])


class TestOrder(Case):
    def movers(self):
        board = counted_board()
        return [Mover(board, 0, 8, 2), Mover(board, 4, 9, 1), Mover(board, 15, 0, 9, -1, -1)]

    def test_each_place_in_order(self):
        movers = self.movers()
        told = turns(movers, [2, 0, 0, 1, 2, 0, 1])
        self.assertEqual(told, [(15, 0, 115), (0, 8, 100), (1, 9, 101), (4, 9, 104), (14, 15, 114), None, None])
        self.assertEqual([mover.left() for mover in movers], [0, 0, 7])

    def test_turns_are_taken_one_behind_the_other(self):
        board = store_board()
        board.write(0, 5)
        movers = [Mover(board, 0, 1, 1), Mover(board, 1, 2, 1)]
        self.assertEqual(turns(movers, [0, 1]), [(0, 1, 5), (1, 2, 5)])
        board = store_board()
        board.write(0, 5)
        movers = [Mover(board, 0, 1, 1), Mover(board, 1, 2, 1)]
        self.assertEqual(turns(movers, [1, 0]), [(1, 2, 0), (0, 1, 5)])

    def test_no_turns(self):
        movers = self.movers()
        self.assertEqual((turns(movers, []), turns([], [])), ([], []))
        self.assertEqual([mover.left() for mover in movers], [2, 1, 9])

    def test_a_place_that_is_none(self):
        for place in (3, 4, -1, -3, 2 ** 64 - 1, 1 - 2 ** 64):
            for order in ([place], [0, place], [0, 1, 2, place], [place, 0], [0, place, 1]):
                movers = self.movers()
                self.refused(NoMover, turns, movers, order)
                self.assertEqual([mover.left() for mover in movers], [2, 1, 9])
                self.assertEqual([mover.places() for mover in movers], [(0, 8), (4, 9), (15, 0)])

    def test_of_no_movers_no_place_is_one(self):
        for place in (0, -1, 1):
            self.refused(NoMover, turns, [], [place])

    def test_a_refused_order_does_nothing_on_the_board(self):
        board = some_board()
        number = board.watch(0, 0)
        self.refused(NoMover, turns, [Mover(board, 9, 10, 4)], [0, 0, 1])
        self.assertEqual((board.news(number), board.floats(), states(board)), ([], 0, states(some_board())))

    def test_a_mover_that_stands_twice(self):
        mover = Mover(counted_board(), 0, 0, 3)
        self.assertEqual(turns([mover, mover], [1, 0, 1, 0]), [(0, 0, 100), (1, 1, 101), (2, 2, 102), None])

    def test_movers_of_unlike_boards(self):
        latch = Latch(3)
        one = Board(1, ((1, 1, 0, 0, None),), [latch], 8)
        other = Board(2, ((3, 3, 0, 0, None),), [latch], 9)
        movers = [Mover(one, 0, 1, 2), Mover(other, 3, 0, 2, 1, 1)]
        self.assertEqual(turns(movers, [1, 0, 1, 0]), [(3, 0, 3), (0, 1, 8), (0, 1, 3), (1, 0, 8)])

    def test_lists_are_not_kept_and_not_changed(self):
        movers, order = self.movers(), [0, 2]
        handed = list(movers)
        told = turns(movers, order)
        self.assertEqual((movers, order), (handed, [0, 2]))
        told.append("mine")
        again = turns(movers, order)
        self.assertEqual(again, [(1, 9, 101), (14, 15, 114)])
        self.assertEqual(told, [(0, 8, 100), (15, 0, 115), "mine"])


if __name__ == "__main__":
    unittest.main()

"""Points [12] to [14]: boards and their watches; and what [2] and [3] say of them."""

import unittest

from cases import ROWS, Case, some_board, some_chips, states
from chipbus.boards import Board
from chipbus.chips import Fixed, Latch, Meter, Pipe, Store
from chipbus.errors import Clash, NoAddress, NoMap, NoWatch, NoWord

NO_WORDS = (-1, 256, 1000, -256, 2 ** 64 - 1, 1 - 2 ** 64)
NO_ADDRESSES = (-1, 16, 17, -16, 2 ** 64 - 1, 1 - 2 ** 64)


class TestInterface(Case):
    def test_parameters(self):
        board = some_board()
        self.check_parameters(Board, "bits", "rows", "chips", ("floating", 0))
        self.check_parameters(board.read, "address", ("quiet", False))
        self.check_parameters(board.write, "address", "word")
        self.check_parameters(board.who, "address")
        self.check_parameters(board.watch, "mask", "want", ("kind", "both"))
        self.check_parameters(board.news, "number")
        self.check_parameters(board.unwatch, "number")
        for asked in (board.floats, board.bits_of, board.rows_of, board.chips_of):
            self.check_parameters(asked)

    def test_by_name(self):
        board = Board(floating=9, chips=some_chips(), rows=ROWS, bits=4)
        self.assertEqual(board.read(quiet=True, address=15), 9)
        self.assertIsNone(board.write(word=5, address=1))
        self.assertEqual(board.who(address=1), (0, 1))
        number = board.watch(kind="read", want=1, mask=15)
        self.assertEqual(board.read(address=1), 5)
        self.assertEqual(board.news(number=number), [("read", 1, 5)])
        self.assertIsNone(board.unwatch(number=number))


class TestMaking(Case):
    def test_what_it_tells_of_itself(self):
        chips = some_chips()
        board = Board(4, ROWS, chips, 77)
        self.assertEqual((board.bits_of(), board.rows_of(), board.floats()), (4, ROWS, 77))
        self.assertIs(type(board.rows_of()), tuple)
        self.assertEqual(some_board().floats(), 0)
        self.assertEqual(len(board.chips_of()), 6)
        for one, other in zip(board.chips_of(), chips):
            self.assertIs(one, other)

    def test_no_rows_and_no_chips(self):
        board = Board(3, (), [])
        self.assertEqual((board.rows_of(), board.chips_of()), ((), []))
        self.assertEqual([board.who(at) for at in range(8)], [None] * 8)
        self.assertEqual(Board(3, (), [Latch()]).chips_of(), [Latch()])

    def test_bits(self):
        for bits in (1, 2, 15, 16):
            last = 2 ** bits - 1
            board = Board(bits, ((last, last, 0, 0, None),), [Latch(5)])
            self.assertEqual(board.bits_of(), bits)
            self.assertEqual((board.read(last), board.who(0)), (5, None))
            self.refused(NoAddress, board.read, last + 1)
        for bits in (0, -1, 17, 18, 64, 2 ** 63, -2 ** 63, True):
            self.refused(NoMap, Board, bits, (), [])
            self.refused(NoMap, Board, bits, ((0, 0, 0, 0, None),), [Latch()])

    def test_what_is_no_map_of_anything(self):
        things = (None, True, 0, 1.5, "", "abcde", b"", [], {}, set(), object(), object, list(ROWS), ROWS[0], (None,),
                  ROWS + (list(ROWS[0]),), ((16, 0, 0, 0, None),), ((1, 2, 0, 0, None),), ((1, 0, 1, 0, None),),
                  ((0, 0, 0, 0, [2, 0, 0]),), ((0, 0, 0, 0, (2, 0, 1)),), ((0, 0, 0, 100, None),),
                  ((0, 0, 0, True, None),), ((0, 0, 0, 0, (True, 0, 0)),))
        for thing in things:
            self.refused(NoMap, Board, 4, thing, some_chips())

    def test_a_map_for_more_bits(self):
        self.assertEqual(Board(5, ROWS, some_chips()).bits_of(), 5)
        self.refused(NoMap, Board, 3, ROWS, some_chips())

    def test_a_number_that_no_chip_has(self):
        chips = [Store(4), Latch()]
        for number in (2, 3, 99):
            self.refused(NoMap, Board, 4, ((0, 0, 0, number, None),), chips)
            self.refused(NoMap, Board, 4, ((0, 0, 0, 0, (number, 0, 0)),), chips)
            self.refused(NoMap, Board, 4, ((8, 0, 0, 0, None), (8, 8, 0, number, None)), chips)
            self.refused(NoMap, Board, 4, ((8, 0, 0, 0, None), (8, 8, 0, 0, (number, 0, 0))), chips)
        self.refused(NoMap, Board, 4, ((0, 0, 0, 0, None),), [])

    def test_a_latch_s_chip_that_is_no_latch(self):
        chips = some_chips()
        for number, chip in enumerate(chips):
            rows = ((0, 0, 0, 0, (number, 0, 0)),)
            if number == 2:
                self.assertEqual(Board(4, rows, chips).rows_of(), rows)
            else:
                self.refused(NoMap, Board, 4, rows, chips)

    def test_the_chips_of_all_the_numbers(self):
        chips = [Latch(number) for number in range(100)]
        rows = tuple((0x7F, number, 0, number, (99 - number, 0xFF, 99 - number)) for number in range(100))
        board = Board(7, rows, chips)
        self.assertEqual([board.read(at) for at in range(100)], list(range(100)))

    def test_an_inner_with_more_ones_than_there_are_cells_for(self):
        fitting = ((Store(1), 0), (Store(2), 1), (Store(3), 1), (Store(4), 2), (Store(7), 2), (Store(8), 3),
                   (Store(4095), 11), (Store(4096), 12), (Fixed([1] * 3), 1), (Fixed([1] * 4), 2), (Latch(), 0),
                   (Meter(), 0), (Pipe(1), 1), (Pipe(255), 1))
        for chip, most in fitting:
            for ones in range(16):
                for inner in (2 ** ones - 1, (2 ** ones - 1) << (15 - ones)):
                    self.check_inner(chip, inner, ones <= most)

    def check_inner(self, chip, inner, fits):
        for rows in (((0, 0, inner, 0, None),), ((0x8000, 0x8000, 0, 0, None), (0x8000, 0, inner, 0, None))):
            if fits:
                self.assertEqual(Board(16, rows, [chip]).rows_of(), rows)
            else:
                self.refused(NoMap, Board, 16, rows, [chip])

    def test_clash(self):
        rows = ((8, 0, 0, 0, None), (12, 12, 0, 0, (3, 5, 1)), (6, 6, 0, 0, (1, 3, 2)), (6, 4, 0, 0, (3, 6, 4)))
        chips = [Store(1), Latch(), Latch(), Latch()]
        told = self.refused(Clash, Board, 4, rows, chips)
        self.assertEqual((told.address, told.first, told.second, told.words), (4, 0, 3, ((3, 4),)))
        told = self.refused(Clash, Board, 4, rows[1:], chips)
        self.assertEqual((told.address, told.first, told.second, told.words), (14, 0, 1, ((1, 2), (3, 1))))
        self.assertIs(type(told.words), tuple)

    def test_rows_that_are_parted_by_a_latch_do_not_clash(self):
        rows = ((0, 0, 0, 0, (1, 1, 0)), (0, 0, 0, 0, (1, 1, 1)))
        self.assertEqual(Board(4, rows, [Store(1), Latch()]).rows_of(), rows)
        self.refused(Clash, Board, 4, rows + ((15, 15, 0, 0, (1, 0, 0)),), [Store(1), Latch()])

    def test_the_order_of_the_refusals(self):
        clashing = ((0, 0, 0, 0, None), (0, 0, 0, 0, None))
        self.refused(Clash, Board, 4, clashing, [Store(1)])
        self.refused(Clash, Board, 4, clashing, [Store(1)], 256)
        unfits = ((15, 15, 0, 1, None), (15, 15, 0, 0, (0, 0, 0)), (0, 0, 1, 0, None), (0, 0, 0, 0, (7, 0, 0)), None)
        for unfit in unfits:
            self.refused(NoMap, Board, 4, clashing + (unfit,), [Store(1)])
            self.refused(NoMap, Board, 4, clashing + (unfit,), [Store(1)], 256)
        self.refused(NoMap, Board, 17, clashing, [Store(1)])
        for word in NO_WORDS:
            self.assertEqual(self.refused(NoWord, Board, 4, ROWS, some_chips(), word).word, word)
        for word in (0, 255):
            self.assertEqual(Board(4, ROWS, some_chips(), word).floats(), word)

    def test_what_is_handed_in_is_not_changed_or_kept(self):
        chips = some_chips()
        first = list(chips)
        board = Board(4, ROWS, chips)
        self.assertEqual(len(chips), 6)
        for one, other in zip(chips, first):
            self.assertIs(one, other)
        chips[0] = Store(4, 0x99)
        del chips[1:]
        self.assertEqual(board.read(0), 0x10)
        self.assertEqual(board.read(9), 7)
        self.assertIs(board.chips_of()[0], first[0])
        self.assertEqual(len(board.chips_of()), 6)

    def test_a_refused_board_changes_no_chip(self):
        chips = some_chips()
        self.refused(Clash, Board, 4, ROWS + ROWS, chips)
        self.refused(NoWord, Board, 4, ROWS, chips, -1)
        self.assertEqual(chips, some_chips())

    def test_chips_of_is_a_new_list_each_time(self):
        board = some_board()
        told = board.chips_of()
        self.assertIs(type(told), list)
        kept = list(told)
        told.reverse()
        told.pop()
        self.assertEqual(len(board.chips_of()), 6)
        for one, other in zip(board.chips_of(), kept):
            self.assertIs(one, other)
        self.assertEqual((board.read(0), board.read(4)), (0x10, 0x10))

    def test_equal_chips_stay_apart(self):
        board = Board(1, ((1, 0, 0, 0, None), (1, 1, 0, 1, None)), [Latch(), Latch()])
        board.write(1, 5)
        self.assertEqual((board.read(0), board.read(1)), (0, 5))
        self.assertEqual(states(board), [(0,), (5,)])


class TestReading(Case):
    def test_who(self):
        board = some_board()
        told = [(0, 0), (0, 1), (0, 2), (0, 3), None, None, None, None, (2, 0), (3, 0), (4, 0), (4, 1), (5, 0), (5, 1),
                None, None]
        self.assertEqual([board.who(at) for at in range(16)], told)
        self.assertIs(type(board.who(0)), tuple)
        board.write(8, 1)
        told[4:8] = [(1, 0), (1, 1), (1, 2), (1, 3)]
        self.assertEqual([board.who(at) for at in range(16)], told)

    def test_who_changes_nothing(self):
        board = some_board()
        board.watch(0, 0)
        before = states(board)
        for at in range(16):
            board.who(at)
        self.assertEqual((states(board), board.floats(), board.news(0)), (before, 0, []))

    def test_reading_tells_what_the_chip_reads(self):
        board = some_board()
        self.assertEqual([board.read(at) for at in (0, 12, 13, 9, 9, 9)], [0x10, 0x51, 0x52, 7, 8, 9])
        self.assertEqual(board.chips_of()[3].state(), (10,))

    def test_the_word_that_was_read_floats(self):
        board = some_board()
        self.assertEqual([board.floats(), board.read(15), board.floats()], [0, 0, 0])
        self.assertEqual([board.read(9), board.floats(), board.read(15), board.floats()], [7, 7, 7, 7])
        self.assertEqual([board.read(13), board.read(14), board.read(4), board.floats()], [0x52, 0x52, 0x52, 0x52])

    def test_the_first_floating_word(self):
        board = Board(4, ROWS, some_chips(), 200)
        self.assertEqual([board.floats(), board.read(15), board.read(0), board.read(15)], [200, 200, 0x10, 0x10])

    def test_scattered_inner_bits(self):
        board = Board(4, ((0b0010, 0b0010, 0b1001, 0, None),), [Store(4)])
        for word, at in enumerate((2, 3, 10, 11)):
            board.write(at, 50 + word)
        self.assertEqual(board.chips_of()[0].state(), (50, 51, 52, 53))
        self.assertEqual([board.read(at) for at in (6, 7, 14, 15)], [50, 51, 52, 53])
        self.assertEqual(board.who(14), (0, 2))

    def test_a_chip_behind_several_rows(self):
        rows = ((12, 0, 3, 0, None), (12, 4, 2, 0, None), (12, 8, 0, 0, None))
        board = Board(4, rows, [Store(4)])
        board.write(1, 9)
        board.write(6, 8)
        board.write(11, 7)
        self.assertEqual(states(board), [(7, 8, 0, 0)])
        self.assertEqual([board.read(at) for at in (0, 1, 5, 7, 8)], [7, 8, 7, 8, 7])

    def test_a_store_greater_than_its_inner(self):
        board = Board(4, ((0, 0, 1, 0, None),), [Store(3, 4)])
        for at in range(16):
            board.write(at, at)
        self.assertEqual(states(board), [(14, 15, 4)])


class TestWriting(Case):
    def test_writes_into_the_row_s_cell(self):
        board = some_board()
        self.assertIsNone(board.write(2, 0x77))
        self.assertEqual(board.chips_of()[0].state(), (0x10, 0x10, 0x77, 0x10))
        self.assertEqual(board.read(2), 0x77)

    def test_the_word_that_was_written_floats(self):
        board = some_board()
        board.write(2, 0x77)
        self.assertEqual([board.floats(), board.read(15)], [0x77, 0x77])
        board.write(12, 0x78)
        self.assertEqual([board.floats(), board.read(15), board.read(12)], [0x78, 0x78, 0x51])

    def test_where_no_row_answers_it_is_lost_and_floats(self):
        board = some_board()
        before = states(board)
        self.assertIsNone(board.write(15, 0x79))
        self.assertEqual([board.floats(), board.read(14), states(board)], [0x79, 0x79, before])

    def test_a_pipe(self):
        board = some_board()
        for word in (1, 2, 3, 4):
            board.write(10, word)
        self.assertEqual([board.floats(), board.read(11), board.read(10), board.read(11)], [4, 3, 1, 2])
        board.write(11, 99)
        self.assertEqual([board.floats(), board.read(11), board.read(10)], [99, 0, 0])


class TestQuietReading(Case):
    def test_tells_what_reading_would_and_changes_nothing(self):
        board = some_board()
        board.watch(0, 0)
        board.write(10, 33)
        board.write(10, 34)
        board.write(1, 35)
        board.news(0)
        before = states(board)
        for at in range(16):
            for count in range(2):
                told = board.read(at, True)
                self.assertEqual((states(board), board.floats()), (before, 35))
            other = some_board()
            for deed in ((10, 33), (10, 34), (1, 35)):
                other.write(*deed)
            self.assertEqual(told, other.read(at))
        self.assertEqual(board.news(0), [])

    def test_the_floating_word_stays(self):
        board = some_board()
        board.write(15, 60)
        self.assertEqual([board.read(0, True), board.floats(), board.read(15, True)], [0x10, 60, 60])
        self.assertEqual([board.read(0, False), board.floats()], [0x10, 0x10])

    def test_a_meter_and_a_pipe(self):
        board = some_board()
        board.write(10, 5)
        self.assertEqual([board.read(9, True), board.read(9, True), board.read(9), board.read(9)], [7, 7, 7, 8])
        self.assertEqual([board.read(10, True), board.read(10, True), board.read(10), board.read(10)], [5, 5, 5, 0])


class TestLatches(Case):
    def test_a_write_to_the_latch_switches_which_row_answers(self):
        rows = ((8, 0, 7, 0, (2, 1, 0)), (8, 0, 7, 1, (2, 1, 1)), (15, 15, 0, 2, None))
        board = Board(4, rows, [Store(8, 1), Store(8, 2), Latch()])
        self.assertEqual([board.read(3), board.who(3)], [1, (0, 3)])
        board.write(3, 50)
        board.write(15, 1)
        self.assertEqual([board.read(3), board.who(3)], [2, (1, 3)])
        board.write(3, 60)
        board.write(15, 0xFE)
        self.assertEqual([board.read(3), board.read(15)], [50, 0xFE])
        board.write(15, 0xFF)
        self.assertEqual(board.read(3), 60)

    def test_a_row_answers_by_the_word_held_ahead_of_the_deed(self):
        # The latch is seen at 0 while it holds 0, so that writing 1 there hides it.
        rows = ((15, 0, 0, 0, (0, 1, 0)), (15, 0, 0, 1, (0, 1, 1)), (15, 1, 0, 0, None))
        board = Board(4, rows, [Latch(), Store(1, 0x44)])
        self.assertEqual(board.who(0), (0, 0))
        board.write(0, 1)
        self.assertEqual(states(board), [(1,), (0x44,)])
        self.assertEqual([board.who(0), board.read(0)], [(1, 0), 0x44])
        board.write(0, 0)
        self.assertEqual(states(board), [(1,), (0,)])
        board.write(1, 2)
        self.assertEqual([board.who(0), board.read(0)], [(0, 0), 2])

    def test_rows_with_two_latches(self):
        rows = ((12, 0, 0, 0, (2, 0x80, 0x80)), (12, 4, 0, 1, (3, 0x0F, 0x05)))
        board = Board(4, rows, [Store(1, 8), Store(1, 9), Latch(), Latch()])
        latches = board.chips_of()[2:]
        self.assertEqual([board.who(0), board.who(4)], [None, None])
        latches[0].write(0, 0x85)
        self.assertEqual([board.who(0), board.who(4)], [(0, 0), None])
        latches[1].write(0, 0xF5)
        self.assertEqual([board.who(0), board.who(4)], [(0, 0), (1, 0)])
        latches[0].write(0, 0x7F)
        self.assertEqual([board.who(0), board.who(4)], [None, (1, 0)])

    def test_a_latch_with_an_empty_mask_lets_always(self):
        board = Board(2, ((0, 0, 0, 0, (0, 0, 0)),), [Latch(9)])
        self.assertEqual([board.read(0), board.who(3)], [9, (0, 0)])
        board.write(3, 200)
        self.assertEqual(board.who(0), (0, 0))

    def test_a_latch_that_no_row_s_latch_names_counts_for_nothing(self):
        board = Board(2, ((3, 0, 0, 0, (1, 1, 1)),), [Latch(1), Latch(0)])
        self.assertIsNone(board.who(0))
        board = Board(2, ((3, 0, 0, 0, (1, 1, 1)),), [Latch(0), Latch(1)])
        self.assertEqual(board.who(0), (0, 0))


class TestRefusedDeeds(Case):
    def unchanged(self, board, error, deed, *handed):
        before = (states(board), board.floats())
        told = self.refused(error, deed, *handed)
        self.assertEqual((states(board), board.floats(), board.news(0)), before + ([],))
        return told

    def setUp(self):
        self.board = some_board()
        self.board.watch(0, 0)
        self.board.write(10, 5)
        self.board.write(15, 3)
        self.board.news(0)

    def test_no_address(self):
        board = self.board
        for address in NO_ADDRESSES:
            for told in (self.unchanged(board, NoAddress, board.read, address),
                         self.unchanged(board, NoAddress, board.read, address, True),
                         self.unchanged(board, NoAddress, board.who, address),
                         self.unchanged(board, NoAddress, board.write, address, 5)):
                self.assertEqual(told.address, address)

    def test_no_address_goes_ahead_of_no_word(self):
        for address in NO_ADDRESSES:
            for word in NO_WORDS:
                told = self.unchanged(self.board, NoAddress, self.board.write, address, word)
                self.assertEqual(told.address, address)

    def test_no_word_wherever_it_is_written(self):
        for address in range(16):
            for word in NO_WORDS:
                told = self.unchanged(self.board, NoWord, self.board.write, address, word)
                self.assertEqual(told.word, word)

    def test_the_last_address_and_the_last_word(self):
        self.board.write(15, 255)
        self.assertEqual(self.board.read(15), 255)
        self.board.write(0, 255)
        self.assertEqual(self.board.read(0), 255)


class TestSharedChips(Case):
    def test_what_one_writes_the_other_reads(self):
        store, meter, latch = Store(4), Meter(), Latch()
        one = Board(4, ((12, 0, 3, 0, None), (15, 15, 0, 1, None), (15, 14, 0, 2, None)), [store, meter, latch])
        other = Board(3, ((6, 6, 1, 2, (0, 1, 1)), (7, 0, 0, 1, None), (7, 1, 0, 0, None)), [latch, meter, store])
        one.write(1, 70)
        self.assertEqual([other.who(7), other.read(7)], [None, 0])
        one.write(14, 1)
        self.assertEqual([other.who(7), other.read(7)], [(0, 1), 70])
        self.assertEqual([one.read(15), other.read(0), one.read(15)], [0, 1, 2])
        other.write(6, 71)
        self.assertEqual(one.read(0), 71)
        other.write(1, 0)
        self.assertEqual([one.read(14), other.who(7)], [0, None])

    def test_each_has_its_own_floating_word_and_watches(self):
        store = Store(1)
        rows = ((1, 0, 0, 0, None),)
        one, other = Board(1, rows, [store], 8), Board(1, rows, [store], 9)
        one.watch(0, 0)
        other.watch(0, 0)
        one.write(0, 5)
        self.assertEqual([one.floats(), other.floats(), other.read(1), other.read(0)], [5, 9, 9, 5])
        self.assertEqual(one.news(0), [("write", 0, 5)])
        self.assertEqual(other.news(0), [("read", 1, 9), ("read", 0, 5)])

    def test_a_chip_that_is_written_by_itself(self):
        board = some_board()
        board.watch(0, 0)
        board.chips_of()[2].write(0, 1)
        self.assertEqual([board.who(4), board.floats(), board.news(0)], [(1, 0), 0, []])
        board.chips_of()[0].write(3, 90)
        self.assertEqual(board.read(3), 90)

    def test_the_same_list_of_chips_for_two_boards(self):
        chips = some_chips()
        one, other = Board(4, ROWS, chips), Board(4, ROWS, chips)
        one.write(0, 1)
        self.assertEqual(other.read(0), 1)
        for mine, yours in zip(one.chips_of(), other.chips_of()):
            self.assertIs(mine, yours)


class TestWatches(Case):
    def test_numbers(self):
        board = some_board()
        self.assertEqual([board.watch(0, 0), board.watch(15, 3, "read"), board.watch(0, 0)], [0, 1, 2])
        self.assertEqual([some_board().watch(0, 0)], [0])

    def test_numbers_never_come_again(self):
        board = some_board()
        self.assertEqual([board.watch(0, 0), board.watch(0, 0)], [0, 1])
        self.assertIsNone(board.unwatch(1))
        self.assertEqual(board.watch(0, 0), 2)
        for number in (0, 2):
            board.unwatch(number)
        self.assertEqual([board.watch(0, 0), board.watch(0, 0)], [3, 4])
        for number in (0, 1, 2):
            self.refused(NoWatch, board.news, number)
            self.refused(NoWatch, board.unwatch, number)

    def test_a_refused_watch_takes_no_number(self):
        board = some_board()
        board.watch(0, 0)
        self.refused(NoWatch, board.watch, 16, 0)
        self.refused(NoWatch, board.watch, 0, 0, "all")
        self.refused(NoWatch, board.news, 1)
        self.assertEqual(board.watch(0, 0), 1)

    def test_kinds(self):
        board = some_board()
        numbers = [board.watch(0, 0, kind) for kind in ("read", "write", "both")] + [board.watch(0, 0)]
        board.write(1, 5)
        board.read(1)
        board.read(1, True)
        board.write(15, 6)
        board.read(14)
        reads = [("read", 1, 5), ("read", 14, 6)]
        writes = [("write", 1, 5), ("write", 15, 6)]
        both = [("write", 1, 5), ("read", 1, 5), ("write", 15, 6), ("read", 14, 6)]
        self.assertEqual([board.news(number) for number in numbers], [reads, writes, both, both])

    def test_masks_and_wants(self):
        for mask in range(16):
            for want in range(16):
                board = some_board()
                board.watch(mask, want)
                for at in range(16):
                    board.write(at, at)
                heard = [at for at in range(16) if at & mask == want & mask] if want & ~mask == 0 else []
                self.assertEqual(board.news(0), [("write", at, at) for at in heard], (mask, want))

    def test_a_want_with_other_ones_hears_none(self):
        board = some_board()
        board.watch(0b0011, 0b0101)
        board.watch(0, 15)
        for at in range(16):
            board.read(at)
            board.write(at, 1)
        self.assertEqual([board.news(0), board.news(1)], [[], []])

    def test_what_makes_no_watch(self):
        board = some_board()
        for number in (-1, 16, 17, 2 ** 64 - 1, 1 - 2 ** 64):
            self.refused(NoWatch, board.watch, number, 0)
            self.refused(NoWatch, board.watch, 0, number)
            self.refused(NoWatch, board.watch, number, number, "read")
        for kind in ("", "Read", "reads", "read ", "r", "w", "quiet", "none", "readwrite"):
            self.refused(NoWatch, board.watch, 0, 0, kind)
        self.assertEqual(board.watch(15, 15), 0)

    def test_bounds_are_the_board_s(self):
        board = Board(1, (), [])
        self.assertEqual(board.watch(1, 1), 0)
        self.refused(NoWatch, board.watch, 2, 0)
        self.refused(NoWatch, board.watch, 0, 2)
        board = Board(16, (), [])
        self.assertEqual(board.watch(0xFFFF, 0xFFFF), 0)
        self.refused(NoWatch, board.watch, 0x10000, 0)
        board.write(0xFFFF, 1)
        board.write(0x7FFF, 2)
        self.assertEqual(board.news(0), [("write", 0xFFFF, 1)])

    def test_news_since_it_was_last_asked(self):
        board = some_board()
        board.write(0, 1)
        board.watch(0, 0)
        board.watch(0, 0)
        self.assertEqual(board.news(0), [])
        board.write(0, 2)
        board.write(0, 2)
        self.assertEqual(board.news(0), [("write", 0, 2)] * 2)
        self.assertEqual(board.news(0), [])
        board.read(0)
        self.assertEqual(board.news(0), [("read", 0, 2)])
        self.assertEqual(board.news(1), [("write", 0, 2), ("write", 0, 2), ("read", 0, 2)])

    def test_a_list_of_news_is_the_asker_s_own(self):
        board = some_board()
        board.watch(0, 0)
        empty = board.news(0)
        board.write(0, 1)
        self.assertEqual(empty, [])
        empty.append("mine")
        told = board.news(0)
        self.assertEqual(told, [("write", 0, 1)])
        self.assertIs(type(told), list)
        self.assertIs(type(told[0]), tuple)
        board.write(0, 2)
        self.assertEqual(told, [("write", 0, 1)])
        told.clear()
        self.assertEqual(board.news(0), [("write", 0, 2)])

    def test_it_hears_the_word_that_was_read_or_written(self):
        board = some_board()
        board.watch(0, 0)
        for at in (9, 9, 15):
            board.read(at)
        board.write(12, 1)
        board.read(12)
        told = [("read", 9, 7), ("read", 9, 8), ("read", 15, 8), ("write", 12, 1), ("read", 12, 0x51)]
        self.assertEqual(board.news(0), told)

    def test_a_refused_deed_is_not_heard(self):
        board = some_board()
        board.watch(0, 0)
        self.refused(NoAddress, board.read, 16)
        self.refused(NoAddress, board.write, -1, 0)
        self.refused(NoWord, board.write, 0, 256)
        self.refused(NoWord, board.write, 15, 256)
        self.assertEqual(board.news(0), [])

    def test_taken_off(self):
        board = some_board()
        for count in range(3):
            board.watch(0, 0)
        board.write(0, 1)
        board.unwatch(1)
        board.write(0, 2)
        both = [("write", 0, 1), ("write", 0, 2)]
        self.assertEqual([board.news(0), board.news(2)], [both, both])
        self.refused(NoWatch, board.news, 1)
        self.refused(NoWatch, board.unwatch, 1)

    def test_numbers_of_none(self):
        board = some_board()
        for number in (0, 1, -1, 2 ** 63, -2 ** 63):
            self.refused(NoWatch, board.news, number)
            self.refused(NoWatch, board.unwatch, number)
        board.watch(0, 0)
        for number in (1, -1):
            self.refused(NoWatch, board.news, number)
            self.refused(NoWatch, board.unwatch, number)
        self.assertEqual(board.news(0), [])


if __name__ == "__main__":
    unittest.main()

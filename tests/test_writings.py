"""Points [17] and [18]: boards and chips as texts; and what [2] and [3] say of them."""

import random
import unittest

import made
import plain
import plain_texts
from cases import ROWS, Case, put, some_board, some_chips, states
from chipbus.boards import Board
from chipbus.chips import Fixed, Latch, Meter, Pipe, Store
from chipbus.errors import NoText
from chipbus.movers import Mover
from chipbus.writings import read_board, read_chip, show_board

SOME_TEXT = """bits 4
chip store 10 10 10 10
chip store 20 20 20 20
chip latch 00
chip meter 07
chip pipe 03
chip fixed 51 52
row c 0 3 0
row c 4 3 1 latch 2 01 01
row f 8 0 2
row f 9 0 3
row e a 1 4
row e c 1 5
floats 00
"""
SMALL_TEXT = """bits 5
chip latch a0
chip pipe 02 09
row 10 00 01 1
row 1e 1e 00 0 latch 0 a1 20
floats f7
"""
EMPTY_TEXT = "bits 1\nfloats 00\n"
CHIP_TEXTS = ("store 00", "store 0a ff 10", "fixed 01", "fixed 00 00", "latch 7f", "meter ff", "pipe 01", "pipe 02 10",
              "pipe 02 10 11", "pipe ff")
SIGNS = "".join(map(chr, range(128)))
FEW_SIGNS = "019afgAF -\n\t\r_+.lcr"


def one_sign_off(text, signs):
    """All texts with one sign put in, out, or in another's place."""
    for at in range(len(text) + 1):
        yield text[:at] + text[at + 1:]
        for sign in signs:
            yield text[:at] + sign + text[at:]
            yield text[:at] + sign + text[at + 1:]


def told_of(chip):
    return (type(chip), len(chip), chip.state(), str(chip))


class TestInterface(Case):
    def test_parameters(self):
        self.check_parameters(show_board, "board")
        self.check_parameters(read_board, "text")
        self.check_parameters(read_chip, "text")

    def test_by_name(self):
        self.assertEqual(show_board(board=some_board()), SOME_TEXT)
        self.assertIs(type(read_board(text=SOME_TEXT)), Board)
        self.assertEqual(read_chip(text="latch 05"), Latch(5))


class TestShowing(Case):
    def test_chips_of_every_kind(self):
        self.assertEqual(show_board(some_board()), SOME_TEXT)

    def test_what_was_done_is_written(self):
        board = some_board()
        put(board, (1, 0xab), (8, 1), (7, 0xff), (10, 1), (10, 2), (12, 9))
        board.read(9)
        self.assertEqual(show_board(board), """bits 4
chip store 10 ab 10 10
chip store 20 20 20 ff
chip latch 01
chip meter 08
chip pipe 03 01 02
chip fixed 51 52
""" + SOME_TEXT[SOME_TEXT.index("row"):].replace("floats 00", "floats 07"))

    def test_neither_chips_nor_rows(self):
        self.assertEqual(show_board(Board(1, (), [])), EMPTY_TEXT)
        self.assertEqual(show_board(Board(16, (), [], 255)), "bits 16\nfloats ff\n")

    def test_chips_without_rows(self):
        self.assertEqual(show_board(Board(9, (), [Latch(), Latch()], 10)),
                         "bits 9\nchip latch 00\nchip latch 00\nfloats 0a\n")

    def test_as_many_figures_as_the_greatest_address_has(self):
        for bits in range(1, 17):
            every = 2 ** bits - 1
            board = Board(bits, ((0, 0, 0, 0, None),), [Latch()])
            figures = "0" * len("%x" % every)
            self.assertEqual(show_board(board).split("\n")[2], f"row {figures} {figures} {figures} 0")
            board = Board(bits, ((every, every, 0, 0, None),), [Latch()])
            self.assertEqual(show_board(board).split("\n")[2], "row %x %x %s 0" % (every, every, figures))
        board = Board(12, ((0xe00, 0x200, 0x01f, 0, None),), [Store(32)])
        self.assertEqual(show_board(board).split("\n")[2], "row e00 200 01f 0")

    def test_a_latch_s_mask_and_want_are_words(self):
        for bits in (1, 4, 8, 16):
            board = Board(bits, ((0, 0, 0, 0, (1, 0, 0)),), [Latch(), Latch()])
            self.assertTrue(show_board(board).split("\n")[3].endswith(" 0 latch 1 00 00"))
            board = Board(bits, ((0, 0, 0, 0, (1, 255, 10)),), [Latch(), Latch()])
            self.assertTrue(show_board(board).split("\n")[3].endswith(" 0 latch 1 ff 0a"))

    def test_chips_numbers_in_the_base_ten(self):
        chips = [Latch() for count in range(100)]
        rows = tuple((127, number, 0, number, (99 - number, 1, 0)) for number in range(100))
        lines = show_board(Board(7, rows, chips)).split("\n")[101:]
        self.assertEqual(lines[:100], ["row 7f %02x 00 %d latch %d 01 00" % (number, number, 99 - number)
                                       for number in range(100)])

    def test_watches_and_movers_are_not_written(self):
        board = some_board()
        board.watch(0, 0)
        Mover(board, 1, 2, 3)
        self.assertEqual(show_board(board), SOME_TEXT)

    def test_showing_changes_nothing(self):
        board = some_board()
        number = board.watch(0, 0)
        put(board, (10, 4), (15, 9))
        before = states(board)
        board.news(number)
        show_board(board)
        self.assertEqual((states(board), board.floats(), board.news(number)), (before, 9, []))


class TestReading(Case):
    def check(self, board):
        """What is read back is the same in all that is told of it, over new chips."""
        text = show_board(board)
        back = read_board(text)
        self.assertIs(type(back), Board)
        self.assertEqual((back.bits_of(), back.rows_of(), back.floats()),
                         (board.bits_of(), board.rows_of(), board.floats()))
        self.assertEqual(back.chips_of(), board.chips_of())
        self.assertEqual([told_of(chip) for chip in back.chips_of()], [told_of(chip) for chip in board.chips_of()])
        for chip in back.chips_of():
            self.assertFalse([other for other in board.chips_of() if other is chip])
        self.assertEqual(show_board(back), text)
        return back

    def test_chips_of_every_kind(self):
        board = some_board()
        self.check(board)
        put(board, (1, 0xab), (8, 1), (7, 0xff), (10, 1), (10, 2), (12, 9))
        self.check(board)
        put(board, (10, 3), (10, 4))
        self.assertEqual(self.check(board).chips_of()[4].state(), (1, 2, 3))

    def test_neither_chips_nor_rows(self):
        for bits in range(1, 17):
            self.check(Board(bits, (), [], bits))
            self.check(Board(bits, (), some_chips()))

    def test_masks_wants_and_inners_of_each_size(self):
        for bits in range(1, 17):
            every = 2 ** bits - 1
            for rows in (((0, 0, 0, 0, None),), ((every, every, 0, 0, None),), ((every, 0, 0, 0, (1, 255, 1)),),
                         ((every - 1, every - 1, 1, 2, None),), ((0, 0, every & 0xfff, 3, None),)):
                chips = [Latch(1), Latch(2), Pipe(3), Store(4096, 4)]
                self.check(Board(bits, rows, chips, bits))

    def test_stores_and_fixed_ones_of_4096_cells(self):
        store = Store(4096)
        for cell in range(4096):
            store.write(cell, cell * 7 % 256)
        self.check(Board(16, ((0xf000, 0, 0xfff, 0, None), (0xf000, 0x1000, 0xfff, 1, None)),
                         [store, Fixed([cell % 251 for cell in range(4096)])]))

    def test_pipes(self):
        for room in (1, 2, 15, 16, 254, 255):
            for many in {0, 1, room - 1, room}:
                pipe = Pipe(room)
                for count in range(many):
                    pipe.write(0, 255 - count)
                back = self.check(Board(1, ((0, 0, 1, 0, None),), [pipe])).chips_of()[0]
                for count in range(room + 1):
                    for chip in (pipe, back):
                        chip.write(0, count % 256)
                self.assertEqual((back.state(), back), (pipe.state(), pipe))

    def test_a_hundred_chips(self):
        chips = [Latch(number) for number in range(100)]
        self.check(Board(7, tuple((127, number, 0, number, (99 - number, 0, 0)) for number in range(100)), chips))

    def test_what_is_read_back_is_for_itself(self):
        board = some_board()
        back = read_board(show_board(board))
        put(back, (0, 1), (9, 1), (10, 1), (8, 1), (15, 7))
        self.assertEqual((show_board(board), board.floats()), (SOME_TEXT, 0))
        again = read_board(SOME_TEXT)
        self.assertEqual(show_board(again), SOME_TEXT)

    def test_no_watches_are_read_back(self):
        board = some_board()
        board.watch(0, 0)
        self.assertEqual(read_board(show_board(board)).watch(0, 0), 0)

    def test_a_map_by_latches_goes_on(self):
        board = some_board()
        back = self.check(board)
        self.assertEqual((back.who(5), back.read(5)), (None, 0))
        back.write(8, 1)
        self.assertEqual((back.who(5), back.read(5)), ((1, 1), 0x20))

    def test_random_boards(self):
        for seed in range(300):
            chance = random.Random(seed)
            bits = chance.randint(1, 6)
            told = [made.some_chip(chance) for count in range(chance.randint(1, 6))]
            rows = made.some_fitting_map(chance, bits, told, 5)
            board = Board(bits, rows, [made.built(each) for each in told], chance.randrange(256))
            model = plain.Board(bits, rows, [plain.Chip(*each) for each in told], board.floats())
            for count in range(20):
                address, word = chance.randrange(2 ** bits), chance.randrange(256)
                for each in (board, model):
                    each.read(address) if word % 3 == 0 else each.write(address, word)
            self.assertEqual(show_board(board), plain_texts.text_of(model))
            self.check(board)


class TestNoBoard(Case):
    def check(self, text):
        """The text is refused or taken as the plain reading says; tells whether it is taken."""
        told = plain_texts.board_of(text)
        if told is None:
            self.refused(NoText, read_board, text)
            return False
        bits, rows, chips, floating = told
        board = read_board(text)
        self.assertEqual((board.bits_of(), board.rows_of(), board.floats()), (bits, rows, floating), text)
        self.assertEqual([str(chip) for chip in board.chips_of()], [plain.Chip(*chip).text() for chip in chips])
        self.assertEqual(show_board(board), text)
        return True

    def check_none(self, *texts):
        for text in texts:
            self.assertFalse(self.check(text), text)

    def replaced(self, old, new):
        """The small text with one part of it replaced."""
        self.assertEqual(SMALL_TEXT.count(old), 1, old)
        return SMALL_TEXT.replace(old, new)

    def test_the_texts_themselves(self):
        for text in (SOME_TEXT, SMALL_TEXT, EMPTY_TEXT):
            self.assertTrue(self.check(text))

    def test_any_sign_off_in_small_texts(self):
        for text in (SMALL_TEXT, EMPTY_TEXT):
            taken = [self.check(other) for other in one_sign_off(text, SIGNS)]
            self.assertIn(True, taken)
            self.assertGreater(taken.count(False), len(taken) // 2)

    def test_some_signs_off(self):
        taken = [self.check(other) for other in one_sign_off(SOME_TEXT, FEW_SIGNS)]
        self.assertIn(True, taken)

    def test_several_signs_off(self):
        chance = random.Random(18)
        for count in range(4000):
            text = chance.choice((SMALL_TEXT, EMPTY_TEXT))
            for turn in range(chance.randint(2, 4)):
                at = chance.randrange(len(text))
                text = text[:at] + chance.choice(FEW_SIGNS) * chance.randrange(2) + text[at + chance.randrange(2):]
            self.check(text)

    def test_rows_left_out_doubled_or_in_another_order(self):
        for text in (SOME_TEXT, SMALL_TEXT, EMPTY_TEXT):
            lines = text.splitlines(keepends=True)
            for at in range(len(lines)):
                self.check("".join(lines[:at] + lines[at + 1:]))
                self.check("".join(lines[:at] + lines[at:at + 1] + lines[at:]))
                self.check("".join(lines[:at]))
                self.check("".join(lines[at:]))
                for other in range(at):
                    turned = list(lines)
                    turned[at], turned[other] = turned[other], turned[at]
                    self.check("".join(turned))
                    self.check("".join(lines[:other] + [lines[at]] + lines[other:at] + lines[at + 1:]))
        self.check_none("", "\n", "\n\n", "bits 1\n", "floats 00\n", "bits 1\nbits 1\nfloats 00\n",
                        "bits 1\nfloats 00\nfloats 00\n", "floats 00\nbits 1\n", "bits 1\nfloats 00\nchip latch 00\n",
                        "bits 1\nfloats 00\nrow 0 0 0 0\n", "chip latch 00\nbits 1\nfloats 00\n")

    def test_chips_stand_ahead_of_rows(self):
        self.assertTrue(self.check("bits 1\nchip latch 00\nchip latch 00\nrow 0 0 0 0\nfloats 00\n"))
        self.check_none("bits 1\nchip latch 00\nrow 0 0 0 0\nchip latch 00\nfloats 00\n",
                        "bits 1\nrow 0 0 0 0\nchip latch 00\nfloats 00\n")

    def test_line_feeds(self):
        for text in (SOME_TEXT, SMALL_TEXT, EMPTY_TEXT):
            self.check_none(text[:-1], text + "\n", "\n" + text, text + " ", text.replace("\n", "\r\n"),
                            text.replace("\n", "\n\n"), text.replace("\n", "\r"), text[:-1] + "\r\n", text + text)

    def test_blanks(self):
        for text in (SOME_TEXT, SMALL_TEXT, EMPTY_TEXT):
            self.check_none(text.replace(" ", "  "), text.replace(" ", "\t"), text.replace(" ", ""),
                            text.replace("\n", " \n"), text.replace("\n", "\n ")[:-1], " " + text)

    def test_great_letters(self):
        for text in (SOME_TEXT, SMALL_TEXT, EMPTY_TEXT):
            self.check_none(text.upper(), text.title(), text.replace("f", "F"))
        self.check_none(self.replaced("1e 1e", "1E 1E"), self.replaced("latch a0", "latch A0"),
                        self.replaced("f7", "F7"), self.replaced("row 1e", "Row 1e"))

    def test_bits(self):
        for bits in list(range(1, 17)):
            self.assertTrue(self.check(f"bits {bits}\nfloats 00\n"))
        for bits in ("0", "17", "18", "99", "100", "256", "01", "04", "00", "016", "-1", "+1", "", "a", "1 ", "1.",
                     "1_0", "0x1", "1" * 5000, "0" * 5000, "1 1"):
            self.check_none(f"bits {bits}\nfloats 00\n", self.replaced("bits 5", f"bits {bits}"))
        self.check_none("bits 0\nchip latch 00\nrow    0\nfloats 00\n", "bits\nfloats 00\n")
        self.check_none("bits 17\nchip latch 00\nrow 00000 00000 00000 0\nfloats 00\n")

    def test_figures_of_another_size(self):
        # All numbers of this text are small enough for any bits.
        for bits in range(1, 17):
            for figures in range(0, 7):
                number = "0" * figures
                text = f"bits {bits}\nchip latch 00\nrow {number} {number} {number} 0\nfloats 00\n"
                self.assertEqual(self.check(text), figures == (bits + 3) // 4)

    def test_numbers_beyond_the_bits(self):
        for bits in range(1, 17):
            figures = (bits + 3) // 4
            for number in (2 ** bits - 1, 2 ** bits, 16 ** figures - 1):
                shown = ("%x" % number).zfill(figures)
                text = f"bits {bits}\nchip store{' 00' * 4096}\nrow {shown} {'0' * figures} {'0' * figures} 0\nfloats 00\n"
                self.assertEqual(self.check(text), number < 2 ** bits and len(shown) == figures)

    def test_noughts_ahead_of_a_chip_s_number(self):
        self.check_none(self.replaced("01 1\n", "01 01\n"), self.replaced("latch 0 ", "latch 00 "),
                        self.replaced("00 0 latch", "00 00 latch"), self.replaced("latch 0 ", "latch 000 "))

    def test_a_chip_s_number_that_no_chip_has(self):
        for number in ("2", "3", "9", "10", "99", "100", "-1", "a", "", "1" * 5000):
            self.check_none(self.replaced("01 1\n", f"01 {number}\n"), self.replaced("latch 0 ", f"latch {number} "))
        self.check_none("bits 1\nrow 0 0 0 0\nfloats 00\n")

    def test_a_row_s_chip_above_99(self):
        chips = "chip latch 00\n" * 101
        self.assertTrue(self.check(f"bits 1\n{chips}row 0 0 0 99\nfloats 00\n"))
        self.check_none(f"bits 1\n{chips}row 0 0 0 100\nfloats 00\n")

    def test_a_latch_that_is_none(self):
        self.check_none(self.replaced("latch 0 ", "latch 1 "))
        for kind in ("store 00", "fixed 00", "meter 00", "pipe 01"):
            self.check_none(f"bits 1\nchip {kind}\nrow 0 0 0 0 latch 0 00 00\nfloats 00\n")
        self.assertTrue(self.check("bits 1\nchip latch 00\nrow 0 0 0 0 latch 0 00 00\nfloats 00\n"))

    def test_a_map_that_clashes(self):
        chips = "bits 2\nchip latch 00\nchip latch 00\n"
        self.check_none(chips + "row 0 0 0 0\nrow 0 0 0 1\nfloats 00\n",
                        chips + "row 1 0 0 0\nrow 2 0 0 0\nfloats 00\n",
                        chips + "row 0 0 0 0 latch 0 01 00\nrow 0 0 0 0 latch 1 01 01\nfloats 00\n",
                        chips + "row 0 0 0 0 latch 0 01 00\nrow 0 0 0 0 latch 0 02 02\nfloats 00\n")
        self.assertTrue(self.check(chips + "row 0 0 0 0 latch 0 01 00\nrow 0 0 0 0 latch 0 01 01\nfloats 00\n"))
        self.assertTrue(self.check(chips + "row 1 0 0 0\nrow 1 1 0 0\nfloats 00\n"))

    def test_an_inner_of_too_many_ones(self):
        for kind, most in (("latch 00", 0), ("meter 00", 0), ("pipe 01", 1), ("pipe ff", 1), ("store 00 00 00", 1),
                           ("fixed 00 00 00 00", 2), ("fixed 00", 0)):
            for ones in range(5):
                text = f"bits 4\nchip {kind}\nrow 0 0 {2 ** ones - 1:x} 0\nfloats 00\n"
                self.assertEqual(self.check(text), ones <= most)

    def test_wants_and_inners_that_make_no_row(self):
        self.check_none(self.replaced("row 10 00", "row 10 01"), self.replaced("row 10 00 01", "row 11 00 01"),
                        self.replaced("a1 20", "a1 02"), self.replaced("a1 20", "00 20"))

    def test_words_of_one_or_three_figures(self):
        self.check_none(self.replaced("latch a0", "latch a"), self.replaced("latch a0", "latch 0a0"),
                        self.replaced("02 09", "2 09"), self.replaced("02 09", "02 9"),
                        self.replaced("02 09", "02 009"), self.replaced("02 09", "002 09"),
                        self.replaced("a1 20", "1 00"), self.replaced("a1 20", "a1 020"),
                        self.replaced("a1 20", "0a1 20"), self.replaced("floats f7", "floats 7"),
                        self.replaced("floats f7", "floats 0f7"), self.replaced("floats f7", "floats"))

    def test_rows_with_words_more_or_fewer(self):
        self.check_none(self.replaced("bits 5", "bits 5 5"), self.replaced("floats f7", "floats f7 f7"),
                        self.replaced("01 1\n", "01 1 1\n"), self.replaced("01 1\n", "01\n"),
                        self.replaced(" a1 20", " a1"), self.replaced(" a1 20", ""), self.replaced(" a1 20", " a1 20 20"),
                        self.replaced("latch 0 a1 20", "latch 0 a1 20 latch 0 a1 20"),
                        self.replaced("latch 0 a1 20", "pipe 0 a1 20"), self.replaced("latch 0 a1 20", "0 a1 20"),
                        self.replaced("chip latch a0", "chip"), self.replaced("chip latch a0", "chip "),
                        self.replaced("chip latch a0", "latch a0"), self.replaced("chip latch a0", "chip chip latch a0"))

    def test_chips_that_are_none(self):
        self.check_none(self.replaced("pipe 02 09", "pipe 02 09 09 09"), self.replaced("pipe 02 09", "pipe 00"),
                        self.replaced("pipe 02 09", "pipe"), self.replaced("pipe 02 09", "store"),
                        self.replaced("pipe 02 09", "fixed"), self.replaced("latch a0", "latch"),
                        self.replaced("latch a0", "latch a0 a0"), self.replaced("pipe 02 09", "drum 02 09"))

    def test_what_such_a_board_would_write_later(self):
        self.assertTrue(self.check(self.replaced("pipe 02 09", "pipe 02 09 0a")))
        self.assertTrue(self.check(self.replaced("pipe 02 09", "pipe 02")))


class TestChips(Case):
    def check(self, text):
        told = plain_texts.chip_of(text)
        if told is None:
            self.refused(NoText, read_chip, text)
            return False
        chip = read_chip(text)
        kind, words, room = told
        self.assertEqual((str(chip), chip.state(), len(chip)), (text, words, plain.Chip(*told).cells()))
        self.assertIs(type(chip), {"store": Store, "fixed": Fixed, "latch": Latch, "meter": Meter, "pipe": Pipe}[kind])
        return True

    def test_the_texts_themselves(self):
        for text in CHIP_TEXTS:
            self.assertTrue(self.check(text), text)

    def test_equal_to_the_chip_written(self):
        chips = some_chips() + [Store(1), Store(4096, 9), Fixed([255] * 4096), Pipe(1), Pipe(255), Meter(255)]
        chips[0].write(2, 99)
        for word in range(4):
            chips[4].write(0, word)
        for chip in chips:
            back = read_chip(str(chip))
            self.assertEqual(back, chip)
            self.assertEqual(told_of(back), told_of(chip))
            self.assertIsNot(back, chip)

    def test_random_chips(self):
        for seed in range(300):
            chance = random.Random(seed)
            told = made.some_chip(chance)
            chip, model = made.built(told), plain.Chip(*told)
            for count in range(10):
                cell, word = chance.randrange(made.cells_of(told)), chance.randrange(256)
                for each in (chip, model):
                    each.write(cell, word) if word % 4 else each.read(cell)
            back = read_chip(str(chip))
            self.assertEqual(back, chip)
            for count in range(20):
                cell, word = chance.randrange(made.cells_of(told)), chance.randrange(256)
                for each in (back, model):
                    each.write(cell, word) if word % 2 else each.read(cell)
                self.assertEqual((back.state(), back.look(cell)), (model.words, model.look(cell)))

    def test_every_word(self):
        for word in range(256):
            self.assertEqual(read_chip("latch %02x" % word), Latch(word))
            self.assertEqual(read_chip("meter %02x" % word), Meter(word))
            self.assertEqual(read_chip("fixed %02x" % word), Fixed([word]))
            self.assertEqual(read_chip("store %02x" % word), Store(1, word))
            if word:
                self.assertEqual(read_chip("pipe %02x" % word), Pipe(word))

    def test_any_sign_off(self):
        for text in CHIP_TEXTS:
            taken = [self.check(other) for other in one_sign_off(text, SIGNS)]
            self.assertIn(True, taken)
            self.assertIn(False, taken)

    def test_how_many_words(self):
        for kind in ("store", "fixed", "latch", "meter"):
            for many in (0, 1, 2, 3, 255, 256, 4095, 4096, 4097, 5000):
                most = 1 if kind in ("latch", "meter") else 4096
                self.assertEqual(self.check(kind + " 7f" * many), 1 <= many <= most, (kind, many))

    def test_how_many_words_in_a_pipe(self):
        self.assertFalse(self.check("pipe"))
        for room in (0, 1, 2, 16, 254, 255):
            for many in (0, 1, 2, 3, 15, 16, 17, 253, 254, 255, 256, 257):
                self.assertEqual(self.check("pipe %02x" % room + " 05" * many), room > 0 and many <= room, (room, many))

    def test_texts_of_nothing(self):
        for text in ("", " ", "\n", "chip latch 00", "latch", "latch ", " latch 00", "latch 00 ", "latch 00\n",
                     "latch  00", "latch\t00", "Latch 00", "LATCH 00", "latch 0", "latch 000", "latch 0A", "latch 0x",
                     "latch +1", "latch -1", "latch _1", "latch 1_", "latch ' 1'", "latch 00\nlatch 00", "latches 00",
                     "store", "store ", "store 00,00", "store 4", "pipe 4", "pipe 004", "pipe 00", "fixed", "meter",
                     "drum 00", "00", "00 latch", "latch 00 latch 00", "board 00", EMPTY_TEXT, "None"):
            self.assertFalse(self.check(text), text)


class TestWhole(Case):
    def test_a_board_s_text_is_read_by_no_one_as_a_chip_s(self):
        self.refused(NoText, read_chip, SOME_TEXT)
        self.refused(NoText, read_board, "latch 00")

    def test_a_long_text_that_is_none(self):
        self.refused(NoText, read_board, "bits 1\n" * 1000)
        self.refused(NoText, read_board, "x" * 100000)
        self.refused(NoText, read_chip, "store " * 10000)
        self.refused(NoText, read_chip, "store" + " 00" * 100000)

    def test_the_map_is_a_tuple_of_tuples(self):
        rows = read_board(SOME_TEXT).rows_of()
        self.assertEqual(rows, ROWS)
        self.assertEqual({type(row) for row in rows} | {type(rows)}, {tuple})


if __name__ == "__main__":
    unittest.main()

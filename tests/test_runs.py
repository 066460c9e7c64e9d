"""Points [19] and [20]: runs; and what [2] and [3] say of them."""

import random
import unittest

import plain
import plain_texts
from cases import ROWS, Case, some_board, states
from chipbus.boards import Board
from chipbus.chips import Fixed, Meter, Store
from chipbus.errors import BadRow, NoAddress, NoMover
from chipbus.runs import run
from chipbus.writings import show_board

# Each is a row by itself, on a board of 16 bits.
GOOD_ROWS = ("r 0", "r f", "r ffff", "r 0000", "r 00a", "q 0", "q 12ab", "w 0 0", "w ffff ff", "w 0001 0a", "w 1 00",
             "t 0", "t 1", "t 9999", "m 0 0 0", "m ffff 0001 9999", "m 1 2 3 0 0", "m 1 2 3 -1 9999", "m a b 10 -9999 -1")
BAD_ROWS = ("", " ", "r", "r ", "q", "w", "t", "m", "r 0 ", " r 0", "r  0", "r\t0", "r 0\r", "r 0\t", "r0", "rr 0",
            "R 0", "Q 0", "W 0 0", "T 0", "M 0 0 0", "r 00000", "r 10000", "r g", "r A", "r aB", "r -1", "r -0", "r +1",
            "r 0x1", "r 0x", "r 1_0", "r 1.", "r 0 0", "q 00000", "q A", "q 0 0", "q -1",
            "w 0", "w 0 ", "w 0 000", "w 0 100", "w 0 g", "w 0 A", "w 0 -1", "w 0 0 0", "w 00000 0", "w  0 0", "w 0  0",
            "t 00", "t 01", "t 10000", "t 00000", "t -1", "t -0", "t +1", "t a", "t 1a", "t 0 0", "t  0", "t 1_0", "t 0x1",
            "m 0 0", "m 0 0 ", "m 0 0 0 0", "m 0 0 0 0 0 0", "m 0 0 0 0 ", "m 0 0 00", "m 0 0 01", "m 0 0 -1", "m 0 0 -0",
            "m 0 0 10000", "m 0 0 a", "m 0 0 +1", "m 00000 0 0", "m 0 00000 0", "m A 0 0", "m 0 A 0", "m -1 0 0",
            "m 0 0 0 00 0", "m 0 0 0 0 00", "m 0 0 0 -0 0", "m 0 0 0 0 -0", "m 0 0 0 01 0", "m 0 0 0 -01 0",
            "m 0 0 0 +1 0", "m 0 0 0 0 +1", "m 0 0 0 10000 0", "m 0 0 0 0 -10000", "m 0 0 0 -00001 0", "m 0 0 0 a 0",
            "m 0 0 0 --1 0", "m 0 0 0 - 0", "m 0 0 0 0 -", "m 0 0 0 - 1 0", "m 0 0 0 1- 0", "m 0 0  0", "m 0 0 0  0 0",
            "x 0", "s 0", "0", "0 r", "r 0;r 0", "# r 0", "r 0 # why", "read 0", "rq 0", "r,0", "None",
            "t " + "1" * 5000, "m 0 0 0 -" + "1" * 5000 + " 0", "r " + "0" * 5000)
SIGNS = "".join(chr(sign) for sign in range(128) if sign != 10)


def wide_board():
    """All 16 bits, a store at its first 4096 addresses."""
    return Board(16, ((0xf000, 0, 0x0fff, 0, None),), [Store(4096)])


def ran(board, text):
    """What the run tells: a list, or a tuple of a refusal's name and fields."""
    try:
        return run(board, text)
    except BadRow as refused:
        return ("BadRow", refused.number, refused.row)
    except NoAddress as refused:
        return ("NoAddress", refused.address)
    except NoMover:
        return ("NoMover",)


class TestInterface(Case):
    def test_parameters(self):
        self.check_parameters(run, "board", "text")

    def test_by_name(self):
        self.assertEqual(run(text="r 0", board=some_board()), [0x10])

    def test_every_list_is_the_asker_s(self):
        board = some_board()
        told = run(board, "r 0")
        told.append(1)
        self.assertEqual((run(board, "r 0"), told), ([0x10], [0x10, 1]))
        self.assertEqual(run(board, ""), [])
        run(board, "").append(1)
        self.assertEqual(run(board, ""), [])


class TestRows(Case):
    def test_each_kind_of_row(self):
        board = some_board()
        text = "r 9\nq 9\nr 9\nw a 5\nw a ff\nr b\nm a 0 2 0 1\nm 9 3 1\nt 0\nt 1\nt 0\nt 0\nr 1"
        told = [7, 8, 8, None, None, 2, 0, 1, (10, 0, 5), (9, 3, 9), (10, 1, 255), None, 255]
        self.assertEqual(run(board, text), told)
        self.assertEqual(states(board)[0], (5, 255, 0x10, 9))
        self.assertIs(type(run(board, "r 0")), list)

    def test_reading(self):
        board = some_board()
        self.assertEqual(run(board, "r 9\nr 9\nr 9"), [7, 8, 9])
        self.assertEqual(run(board, "\n".join("r %x" % address for address in range(16))),
                         [0x10, 0x10, 0x10, 0x10, 0x10, 0x10, 0x10, 0x10, 0, 10, 0, 0, 0x51, 0x52, 0x52, 0x52])

    def test_quiet_reading(self):
        board = some_board()
        number = board.watch(0, 0)
        self.assertEqual(run(board, "q 9\nq 9\nq c\nq f"), [7, 7, 0x51, 0])
        self.assertEqual((board.floats(), board.news(number), states(board)), (0, [], states(some_board())))

    def test_writing(self):
        board = some_board()
        self.assertEqual(run(board, "w 0 1\nw 1 a\nw 2 ff\nw 3 0f\nw f 77"), [None] * 5)
        self.assertEqual((states(board)[0], board.floats()), ((1, 10, 255, 15), 0x77))

    def test_a_write_that_changes_the_map(self):
        self.assertEqual(run(some_board(), "r 5\nw 8 1\nr 5\nw 5 9\nq 5\nw 8 0\nq 5"),
                         [0, None, 0x20, None, 9, None, 0])

    def test_movers(self):
        board = Board(4, ((0, 0, 15, 0, None),), [Fixed(list(range(100, 116)))])
        self.assertEqual(run(board, "m 3 4 2\nt 0\nt 0\nt 0"), [0, (3, 4, 103), (4, 5, 104), None])
        self.assertEqual(run(board, "m 3 4 3 2 -5\nt 0\nt 0\nt 0\nt 0"),
                         [0, (3, 4, 103), (5, 15, 105), (7, 10, 107), None])
        self.assertEqual(run(board, "m 3 4 9 0 0\nt 0\nt 0"), [0, (3, 4, 103), (3, 4, 103)])
        self.assertEqual(run(board, "m 3 4 9 9999 -9999\nt 0\nt 0"), [0, (3, 4, 103), (2, 5, 102)])
        self.assertEqual(run(board, "m 3 4 0\nt 0"), [0, None])

    def test_movers_are_numbered_as_they_are_set(self):
        rows = []
        told = []
        for number in range(12):
            rows += ["m %x 0 1" % number, "t %d" % number]
            told += [number, (number, 0, 100 + number)]
        board = Board(4, ((0, 0, 15, 0, None),), [Fixed(list(range(100, 116)))])
        self.assertEqual(run(board, "\n".join(rows)), told)
        self.assertEqual(run(board, "m 0 0 1\nm 1 0 1\nm 2 0 1\nt 2\nt 0\nt 1\nt 2"),
                         [0, 1, 2, (2, 0, 102), (0, 0, 100), (1, 0, 101), None])

    def test_movers_end_with_the_run(self):
        board = some_board()
        self.assertEqual(run(board, "m 0 1 5\nt 0"), [0, (0, 1, 0x10)])
        self.refused(NoMover, run, board, "t 0")
        self.assertEqual(run(board, "m 2 3 5\nt 0"), [0, (2, 3, 0x10)])

    def test_numbers_in_the_base_sixteen(self):
        board = wide_board()
        for address in (0, 9, 10, 15, 16, 255, 256, 0xabc, 0xfff):
            shown = "%x" % address
            for figures in range(len(shown), 5):
                run(board, f"w {shown.zfill(figures)} {figures}")
                self.assertEqual(board.read(address), figures)
        for word in range(256):
            for shown in {"%x" % word, "%02x" % word}:
                self.assertEqual(run(board, f"w 1 {shown}\nr 0001\nq 01"), [None, word, word])

    def test_numbers_in_the_base_ten(self):
        board = wide_board()
        text = "m 0 800 9999\n" + "\n".join(["t 0"] * 10001)
        told = run(board, text)
        self.assertEqual(told[9999], (9998, 0x800 + 9998, 0))
        self.assertEqual(told[10000:], [None, None])
        for step in (0, 1, -1, 9, -9, 10, 9999, -9999):
            text = f"m 8000 4000 2 {step} {-step}\nt 0\nt 0"
            self.assertEqual([turn[:2] for turn in run(board, text)[1:]],
                             [(0x8000, 0x4000), ((0x8000 + step) % 65536, (0x4000 - step) % 65536)])

    def test_many_movers(self):
        board = wide_board()
        text = "\n".join(["m %x 0 1" % number for number in range(1001)] + ["t 1000", "t 999", "t 10", "t 0"])
        self.assertEqual([turn[0] for turn in run(board, text)[1001:]], [1000, 999, 10, 0])

    def test_watches_hear_what_a_run_does(self):
        board = some_board()
        both, reads, writes = board.watch(0, 0), board.watch(12, 0, "read"), board.watch(0, 0, "write")
        run(board, "r 0\nq 1\nw e 5\nm 9 1 2\nt 0\nt 0\nt 0")
        self.assertEqual(board.news(both), [("read", 0, 16), ("write", 14, 5), ("read", 9, 7), ("write", 1, 7),
                                            ("read", 10, 0), ("write", 2, 0)])
        self.assertEqual(board.news(reads), [("read", 0, 16)])
        self.assertEqual(board.news(writes), [("write", 14, 5), ("write", 1, 7), ("write", 2, 0)])

    def test_the_text_without_rows(self):
        board = some_board()
        self.assertEqual((run(board, ""), show_board(board)), ([], show_board(some_board())))


class TestBadRows(Case):
    def check_bad(self, text, number, row):
        board = some_board()
        heard = board.watch(0, 0)
        refused = self.refused(BadRow, run, board, text)
        self.assertEqual((refused.number, refused.row), (number, row))
        self.assertEqual((show_board(board), board.news(heard)), (show_board(some_board()), []))

    def test_good_rows(self):
        for row in GOOD_ROWS:
            self.assertIsNotNone(plain_texts.deed_of(row), row)
            text = row if row[0] != "t" else f"m 0 0 1\n{row}"
            if row in ("t 1", "t 9999"):
                self.refused(NoMover, run, wide_board(), text)
            else:
                self.assertEqual(len(run(wide_board(), text)), len(text.split("\n")))

    def test_bad_rows(self):
        for row in BAD_ROWS:
            self.assertIsNone(plain_texts.deed_of(row), row)
            self.check_bad("w 0 1\n" + row, 2, row)
            self.check_bad(row + "\nw 0 1", 1, row)
            self.check_bad("r 9\nw 1 1\nm 0 1 1\nt 0\n" + row + "\nw 0 1", 5, row)
            if row:
                self.check_bad(row, 1, row)

    def test_the_first_bad_row_is_told(self):
        self.check_bad("w 0 1\nbad\nw 0 2\nworse\n", 2, "bad")
        self.check_bad("worst\nbad", 1, "worst")
        self.check_bad("\n".join(["r 9"] * 100 + ["r"] + ["w"]), 101, "r")

    def test_empty_rows(self):
        self.check_bad("\n", 1, "")
        self.check_bad("\n\n\n", 1, "")
        self.check_bad("r 0\n", 2, "")
        self.check_bad("\nr 0", 1, "")
        self.check_bad("r 0\n\nr 0", 2, "")
        self.check_bad("r 0\nr 0\n\n", 3, "")

    def test_other_ends_of_lines(self):
        self.check_bad("r 0\r\nr 0", 1, "r 0\r")
        self.check_bad("r 0\rr 0", 1, "r 0\rr 0")
        self.check_bad("r 0\x0br 0", 1, "r 0\x0br 0")
        self.check_bad("r 0\x0cr 0", 1, "r 0\x0cr 0")
        self.check_bad("r 0\x1cr 0", 1, "r 0\x1cr 0")

    def test_a_bad_row_goes_ahead_of_all_other_refusals(self):
        self.check_bad("r 10\nt 9\nm 10 10 1\nbad", 4, "bad")
        self.check_bad("bad\nr 10", 1, "bad")
        self.check_bad("t 0\n", 2, "")

    def test_any_sign_off(self):
        """A sign put in, out, or in another's place, held against patterns."""
        counts = {True: 0, False: 0}
        for row in ("r 0", "q a1", "w 12 3f", "w ffff 0", "t 0", "t 9999", "m 1 fe 20", "m 1 2 3 0 -1", "m 0 0 0 9999 10"):
            for at in range(len(row) + 1):
                for sign in SIGNS:
                    for other in (row[:at] + sign + row[at:], row[:at] + sign + row[at + 1:], row[:at] + row[at + 1:]):
                        good = plain_texts.deed_of(other) is not None
                        counts[good] += 1
                        # The bad row behind is told where this one is good.
                        bad = (2, "") if good else (1, other)
                        self.assertEqual(ran(None, other + "\n"), ("BadRow",) + bad, other)
        self.assertGreater(counts[True], 1000)
        self.assertGreater(counts[False], 1000)


class TestRefusedRows(Case):
    def check_ended(self, refusal, kept, row):
        """A run whose row is refused does what the rows ahead, kept, do by themselves, and no more."""
        board, other = some_board(), some_board()
        watches = [each.watch(0, 0) for each in (board, other)]
        text = "\n".join(kept + [row, "w 3 99", "r 9", "w a 1"])
        self.assertEqual(ran(board, text), refusal)
        run(other, "\n".join(kept))
        self.assertEqual(show_board(board), show_board(other))
        self.assertEqual(board.news(watches[0]), other.news(watches[1]))

    def test_no_address(self):
        for kept in ([], ["w 0 1"], ["r 9", "w a 5", "q a"], ["m 9 0 3", "t 0", "t 0"]):
            for letter in ("r {}", "q {}", "w {} 1", "m {} 0 1", "m 0 {} 1", "m {} 0 1 1 1", "m 0 {} 0 0 0"):
                for address in ("10", "010", "0010", "11", "ff", "ffff", "1000"):
                    self.check_ended(("NoAddress", int(address, 16)), kept, letter.format(address))

    def test_the_source_s_goes_first(self):
        self.check_ended(("NoAddress", 0x20), ["w 0 1"], "m 20 10 1")
        self.check_ended(("NoAddress", 0x10), ["w 0 1"], "m 10 20 1")

    def test_no_mover(self):
        self.check_ended(("NoMover",), [], "t 0")
        self.check_ended(("NoMover",), ["w 0 1", "r 9"], "t 0")
        self.check_ended(("NoMover",), ["m 9 0 5", "t 0"], "t 1")
        self.check_ended(("NoMover",), ["m 9 0 5", "m 9 1 5", "t 1"], "t 2")
        self.check_ended(("NoMover",), ["m 9 0 5", "t 0"], "t 9999")

    def test_a_mover_that_is_set_later(self):
        board = some_board()
        self.refused(NoMover, run, board, "w 0 1\nt 0\nm 0 1 1\nt 0")
        self.assertEqual(states(board)[0], (1, 0x10, 0x10, 0x10))

    def test_a_refused_row_ends_the_run(self):
        board = some_board()
        self.assertEqual(self.refused(NoAddress, run, board, "w 0 1\nr 10\nw 1 1\nr 20").address, 16)
        self.assertEqual(states(board)[0], (1, 0x10, 0x10, 0x10))
        self.assertEqual(self.refused(NoAddress, run, board, "w 2 2\nw 10 ff").address, 16)
        self.assertEqual((states(board)[0], board.floats()), ((1, 0x10, 2, 0x10), 2))

    def test_the_next_run_goes_on(self):
        board = some_board()
        self.refused(NoAddress, run, board, "r 9\nr 10")
        self.assertEqual(run(board, "r 9"), [8])

    def test_addresses_of_each_size(self):
        for bits in range(1, 17):
            board = Board(bits, ((0, 0, 0, 0, None),), [Meter(1)])
            self.assertEqual(run(board, "q %x" % (2 ** bits - 1)), [1])
            if bits < 16:
                refused = self.refused(NoAddress, run, board, "r %x" % 2 ** bits)
                self.assertEqual((refused.address, states(board)), (2 ** bits, [(1,)]))


class TestRandom(Case):
    def some_number(self, chance, most, figures):
        shown = "%x" % chance.randrange(most)
        return shown.zfill(chance.randint(len(shown), figures))

    def some_run(self, chance):
        """Mostly good rows, some of them refused."""
        rows = []
        for count in range(chance.randint(0, 25)):
            address, other = (self.some_number(chance, chance.choice((16, 16, 16, 16, 16, 16, 20)), 4) for one in "ab")
            rows.append(chance.choice((
                f"r {address}", f"q {address}", f"w {address} {self.some_number(chance, 256, 2)}",
                f"w {address} {self.some_number(chance, 3, 2)}", f"m {address} {other} {chance.randrange(12)}",
                f"m {address} {other} {chance.randrange(4)} {chance.randint(-20, 20)} {chance.randint(-20, 20)}",
                f"t {chance.randrange(3)}", f"t {chance.randrange(2)}", "t 0")))
        if chance.randrange(12) == 0:
            rows.insert(chance.randint(0, len(rows)), chance.choice(BAD_ROWS))
        return "\n".join(rows)

    def test_runs_against_plain_ones(self):
        seen = {}
        for seed in range(1500):
            chance = random.Random(seed)
            board = some_board()
            chips = [plain.Chip(*each) for each in (
                ("store", (16,) * 4), ("store", (32,) * 4), ("latch", (0,)), ("meter", (7,)), ("pipe", (), 3),
                ("fixed", (0x51, 0x52)))]
            model = plain.Board(4, ROWS, chips, 0)
            board.watch(0, 0)
            model.watch(0, 0, "both")
            for count in range(2):
                text = self.some_run(chance)
                told = ran(board, text)
                self.assertEqual(told, plain_texts.run(model, text), text)
                self.assertEqual(show_board(board), plain_texts.text_of(model), text)
                self.assertEqual(board.news(0), model.news(0), text)
                kind = told[0] if type(told) is tuple else "list"
                seen[kind] = seen.get(kind, 0) + 1
        for kind in ("list", "BadRow", "NoAddress", "NoMover"):
            self.assertGreater(seen[kind], 100, seen)


if __name__ == "__main__":
    unittest.main()

"""What the tests of several modules share: how refusals are held up, and a board with chips of every kind."""

import inspect
import unittest

from chipbus.boards import Board
from chipbus.chips import Fixed, Latch, Meter, Pipe, Store
from chipbus.errors import BusError

# A store at 0 to 3, by a latch another at 4 to 7, the latch itself at 8, a meter at 9, a pipe at 10 and 11,
# a fixed one at 12 and 13; 14 and 15 float.
ROWS = (
    (0b1100, 0b0000, 0b0011, 0, None),
    (0b1100, 0b0100, 0b0011, 1, (2, 0x01, 0x01)),
    (0b1111, 0b1000, 0b0000, 2, None),
    (0b1111, 0b1001, 0b0000, 3, None),
    (0b1110, 0b1010, 0b0001, 4, None),
    (0b1110, 0b1100, 0b0001, 5, None),
)


def some_chips():
    return [Store(4, 0x10), Store(4, 0x20), Latch(), Meter(7), Pipe(3), Fixed([0x51, 0x52])]


def some_board():
    return Board(4, ROWS, some_chips())


def states(board):
    return [chip.state() for chip in board.chips_of()]


def put(board, *deeds):
    """Write the words at the addresses told as pairs."""
    for address, word in deeds:
        board.write(address, word)


class Case(unittest.TestCase):
    def refused(self, error, deed, *handed, **named):
        with self.assertRaises(BusError) as caught:
            deed(*handed, **named)
        self.assertIs(type(caught.exception), error)
        return caught.exception

    def check_parameters(self, thing, *told):
        """The parameters by their names, those with a default as pairs."""
        asked = inspect.signature(thing).parameters.values()
        self.assertEqual([each.name if each.default is each.empty else (each.name, each.default) for each in asked],
                         list(told))

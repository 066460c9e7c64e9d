"""Rows and maps: what is one, and what a row shows at an address.

A row is a tuple (mask, want, inner, chip, latch), a latch None or (chip, mask, want).
"""

from chipbus.bits import gathered, ones_of, parts_of, spread
from chipbus.words import LAST_WORD, is_number

LAST_CHIP = 99


def size_of(bits):
    """How many addresses a board of so many bits has."""
    return 1 << max(bits, 0)


def is_choice(mask, want, last):
    """Whether both are numbers up to last, and all ones of want ones of mask."""
    return is_number(mask, last) and is_number(want, last) and want & mask == want


def is_latch(thing):
    """Whether thing, which may be anything, is a row's latch (other than None)."""
    if not isinstance(thing, tuple) or len(thing) != 3:
        return False
    chip, mask, want = thing
    return is_number(chip, LAST_CHIP) and is_choice(mask, want, LAST_WORD)


def is_row(bits, thing):
    """Whether thing, which may be anything, is a row for so many bits."""
    if not isinstance(thing, tuple) or len(thing) != 5:
        return False
    mask, want, inner, chip, latch = thing
    last = size_of(bits) - 1
    if not is_choice(mask, want, last) or not is_number(inner, last) or inner & mask != 0:
        return False
    return is_number(chip, LAST_CHIP) and (latch is None or is_latch(latch))


def is_map(bits, thing):
    """Whether thing, which may be anything, is a tuple of rows for so many bits."""
    return isinstance(thing, tuple) and all([is_row(bits, row) for row in thing])


def meets(row, address):
    """Whether the address has at the row's mask's ones the bits that the row wants."""
    return address & row[0] == row[1]


def cell_at(row, address):
    """The cell that the row shows at the address."""
    return gathered(row[2], address)


def addresses_of(bits, row, cell):
    """All addresses that the row meets and shows the cell at, rising; TooMany beyond 4096."""
    mask, want, inner = row[:3]
    if cell < 0 or cell.bit_length() > ones_of(inner):
        return []
    least = want | spread(inner, cell)
    # Twelve free bits, the most that parts_of takes, make just the 4096 addresses let by.
    free = (size_of(bits) - 1) & ~(mask | inner)
    return [least + part for part in parts_of(free)]

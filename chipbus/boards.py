"""Boards: chips behind addresses, and the watches on them."""

from chipbus.bits import ones_of
from chipbus.chips import Latch
from chipbus.clashes import answering, clash_of
from chipbus.errors import Clash, NoAddress, NoMap, NoWatch
from chipbus.maps import cell_at, is_map, size_of
from chipbus.words import check_word, is_number

MOST_BITS = 16
READ = "read"
WRITE = "write"
BOTH = "both"


def row_fits(row, chips):
    """Whether the row's chip is there and has its cells, and its latch's chip is a latch."""
    inner, chip, latch = row[2:]
    if chip >= len(chips) or 1 << ones_of(inner) > len(chips[chip]):
        return False
    return latch is None or (latch[0] < len(chips) and isinstance(chips[latch[0]], Latch))


def check_map(bits, rows, chips):
    """Refuse bits and rows that make no map, or none over these chips."""
    if not is_number(bits, MOST_BITS) or bits < 1:
        raise NoMap(f"no bits of a board: {bits}")
    if not is_map(bits, rows):
        raise NoMap(f"no map for {bits} bits")
    for number, row in enumerate(rows):
        if not row_fits(row, chips):
            raise NoMap(f"row {number} does not fit the chips")


def check_clash(rows):
    """Refuse a map of which two rows clash."""
    clash = clash_of(rows)
    if clash is not None:
        address, first, second, words = clash
        raise Clash(address, first, second, words)


class Watch:
    """What was done at some addresses of a board since its news were last asked for."""

    def __init__(self, mask, want, kind):
        self.mask = mask
        self.want = want
        self.kind = kind
        self.heard = []

    def hear(self, kind, address, word):
        """Keep the deed if the watch is for it."""
        if self.kind in (BOTH, kind) and address & self.mask == self.want:
            self.heard.append((kind, address, word))


class Board:
    """Addresses of so many bits, a map, and the chips that answer by it."""

    def __init__(self, bits, rows, chips, floating=0):
        check_map(bits, rows, chips)
        check_clash(rows)
        check_word(floating)
        self.bits = bits
        self.rows = rows
        self.chips = list(chips)
        self.floating = floating
        self.latches = sorted({row[4][0] for row in rows if row[4] is not None})
        self.watches = {}
        self.next_watch = 0

    def who(self, address):
        """The row and the cell that answer at the address now, a tuple, or None."""
        self.check_address(address)
        words = {chip: self.chips[chip].look(0) for chip in self.latches}
        number = answering(self.rows, address, words)
        if number is None:
            return None
        return (number, cell_at(self.rows[number], address))

    def read(self, address, quiet=False):
        """The word at the address; quietly nothing changes and no watch hears."""
        found = self.who(address)
        word = self.floating
        if found is not None:
            number, cell = found
            chip = self.chip_of(number)
            word = chip.look(cell) if quiet else chip.read(cell)
        if not quiet:
            self.finish(READ, address, word)
        return word

    def write(self, address, word):
        """Write the word at the address; where no row answers it is lost."""
        found = self.who(address)
        check_word(word)
        if found is not None:
            number, cell = found
            self.chip_of(number).write(cell, word)
        self.finish(WRITE, address, word)

    def finish(self, kind, address, word):
        """What follows each deed: its word floats, and the watches hear of it."""
        self.floating = word
        for watch in self.watches.values():
            watch.hear(kind, address, word)

    def in_bits(self, number):
        """Whether the number is one below 2 to the board's bits, as addresses, masks and wants are."""
        return is_number(number, size_of(self.bits) - 1)

    def check_address(self, address):
        """Refuse a number that is no address of the board."""
        if not self.in_bits(address):
            raise NoAddress(address)

    def chip_of(self, number):
        """The chip of the row of this number."""
        return self.chips[self.rows[number][3]]

    def floats(self):
        """The floating word."""
        return self.floating

    def bits_of(self):
        """How many bits the addresses have."""
        return self.bits

    def rows_of(self):
        """The map."""
        return self.rows

    def chips_of(self):
        """The chips themselves, in a list of its own."""
        return list(self.chips)

    def watch(self, mask, want, kind=BOTH):
        """Set a watch, and tell its number."""
        if not self.in_bits(mask) or not self.in_bits(want) or kind not in (READ, WRITE, BOTH):
            raise NoWatch(f"no watch: {mask} {want} {kind}")
        number = self.next_watch
        self.watches[number] = Watch(mask, want, kind)
        self.next_watch += 1
        return number

    def check_watch(self, number):
        """Refuse a number that is no watch's."""
        if number not in self.watches:
            raise NoWatch(f"no watch has the number {number}")

    def news(self, number):
        """What the watch heard since it was last asked, tuples (kind, address, word) in order."""
        self.check_watch(number)
        watch = self.watches[number]
        heard = watch.heard
        watch.heard = []
        return heard

    def unwatch(self, number):
        """Take the watch off; its number never comes again."""
        self.check_watch(number)
        del self.watches[number]

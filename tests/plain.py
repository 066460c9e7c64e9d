"""Plain goings through of addresses, pairs of rows and words, and plain chips and boards.

The program's answers are held against them. Nothing here uses the program: each bit, address
and word is tried one by one.
"""

import functools


def bit(number, place):
    return (number // 2 ** place) % 2


@functools.lru_cache(maxsize=None)
def places(mask):
    return tuple(place for place in range(80) if bit(mask, place))


def fits(number, mask, want):
    return all(bit(number, place) == bit(want, place) for place in places(mask))


def gathered(mask, number):
    return sum(2 ** k for k, place in enumerate(places(mask)) if bit(number, place))


def spread(mask, number):
    return sum(2 ** place for k, place in enumerate(places(mask)) if bit(number, k))


def meets(row, address):
    return fits(address, row[0], row[1])


def answers(row, address, words):
    if not meets(row, address):
        return False
    return row[4] is None or fits(words.get(row[4][0], 0), row[4][1], row[4][2])


def addresses_of(bits, row, cell):
    return [at for at in range(2 ** bits) if meets(row, at) and gathered(row[2], at) == cell]


def least_words(one, other):
    """The least words by which both latches let answer, tried word by word, or None."""
    latches = [row[4] for row in (one, other) if row[4] is not None]
    told = []
    for chip in sorted({latch[0] for latch in latches}):
        asked = [latch for latch in latches if latch[0] == chip]
        letting = (word for word in range(256) if all(fits(word, latch[1], latch[2]) for latch in asked))
        least = next(letting, None)
        if least is None:
            return None
        told.append((chip, least))
    return tuple(told)


def clash_of(bits, rows):
    for address in range(2 ** bits):
        for first in range(len(rows)):
            for second in range(first + 1, len(rows)):
                if meets(rows[first], address) and meets(rows[second], address):
                    words = least_words(rows[first], rows[second])
                    if words is not None:
                        return (address, first, second, words)
    return None


def all_answering(rows, address, words):
    return [number for number, row in enumerate(rows) if answers(row, address, words)]


def holes(bits, rows, words):
    return [address for address in range(2 ** bits) if not all_answering(rows, address, words)]


class Chip:
    """A chip by the words of the document, told as (kind, words, room); room is a pipe's alone."""

    def __init__(self, kind, words, room=None):
        self.kind = kind
        self.words = tuple(words)
        self.room = room

    def cells(self):
        return 2 if self.kind == "pipe" else len(self.words)

    def look(self, cell):
        if self.kind != "pipe":
            return self.words[cell]
        if cell == 1:
            return len(self.words)
        return (self.words + (0,))[0]

    def read(self, cell):
        word = self.look(cell)
        if self.kind == "meter":
            self.words = (0 if word == 255 else word + 1,)
        elif self.kind == "pipe" and cell == 0:
            self.words = self.words[1:]
        return word

    def write(self, cell, word):
        if self.kind == "pipe":
            self.words = () if cell == 1 else (self.words + (word,))[:self.room]
        elif self.kind != "fixed":
            self.words = self.words[:cell] + (word,) + self.words[cell + 1:]

    def text(self):
        told = [self.kind] + ([] if self.room is None else ["%02x" % self.room])
        return " ".join(told + ["%02x" % word for word in self.words])


class Board:
    """A board that goes through its rows one by one, and keeps every deed that was done on it."""

    def __init__(self, bits, rows, chips, floating):
        self.bits, self.rows, self.chips, self.floating = bits, rows, chips, floating
        self.deeds = []
        self.watches = []

    def who(self, address):
        words = {number: chip.words[0] for number, chip in enumerate(self.chips) if chip.kind == "latch"}
        for number in all_answering(self.rows, address, words):
            return (number, gathered(self.rows[number][2], address))
        return None

    def look(self, address):
        found = self.who(address)
        return self.floating if found is None else self.chips[self.rows[found[0]][3]].look(found[1])

    def read(self, address):
        found = self.who(address)
        if found is not None:
            self.floating = self.chips[self.rows[found[0]][3]].read(found[1])
        self.deeds.append(("read", address, self.floating))
        return self.floating

    def write(self, address, word):
        found = self.who(address)
        if found is not None:
            self.chips[self.rows[found[0]][3]].write(found[1], word)
        self.floating = word
        self.deeds.append(("write", address, word))

    def watch(self, mask, want, kind):
        self.watches.append([mask, want, kind, len(self.deeds)])
        return len(self.watches) - 1

    def news(self, number):
        mask, want, kind, since = self.watches[number]
        self.watches[number][3] = len(self.deeds)
        return [deed for deed in self.deeds[since:]
                if kind in ("both", deed[0]) and not want & ~mask and fits(deed[1], mask, want)]


class Mover:
    """A mover that adds and takes away the board's size until it is back among the addresses."""

    def __init__(self, board, source, target, many, step, by):
        self.board, self.source, self.target, self.many, self.step, self.by = board, source, target, many, step, by

    def round(self, address):
        while address < 0:
            address += 2 ** self.board.bits
        while address >= 2 ** self.board.bits:
            address -= 2 ** self.board.bits
        return address

    def turn(self):
        if self.many == 0:
            return None
        told = (self.source, self.target, self.board.read(self.source))
        self.board.write(self.target, told[2])
        self.source, self.target = self.round(self.source + self.step), self.round(self.target + self.by)
        self.many -= 1
        return told

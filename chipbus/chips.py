"""Chips: stores, fixed ones, latches, meters and pipes, read and written cell by cell."""

from chipbus.errors import NoCell, NoChip
from chipbus.figures import two_figures
from chipbus.words import LAST_WORD, check_word, is_number, is_word

MOST_CELLS = 4096
MOST_ROOM = 255


class Chip:
    """What the kinds of chips have in common: plain cells, unless a kind says otherwise.

    head is what the chip's text begins with, held the words of its state.
    """

    def __init__(self, head, held):
        self.head = head
        self.held = held

    def __len__(self):
        return len(self.held)

    def __eq__(self, other):
        # The head tells the kind and a pipe's room, the words held how many cells a store or a fixed one has.
        return isinstance(other, Chip) and self.head == other.head and self.held == other.held

    def __str__(self):
        return " ".join([self.head] + [two_figures(word) for word in self.held])

    def state(self):
        """The words of the chip, a tuple."""
        return tuple(self.held)

    def check_cell(self, cell):
        """Refuse a number that is no cell's."""
        if not is_number(cell, len(self) - 1):
            raise NoCell(f"no cell: {cell}")

    def check_write(self, cell, word):
        """Refuse a number that is no cell's, then one that is no word."""
        self.check_cell(cell)
        check_word(word)

    def look(self, cell):
        """The word that reading the cell would tell; changes nothing."""
        self.check_cell(cell)
        return self.held[cell]

    def read(self, cell):
        """The cell's word."""
        return self.look(cell)

    def write(self, cell, word):
        """Write the word into the cell."""
        self.check_write(cell, word)
        self.held[cell] = word


class Store(Chip):
    """Cells of words, at first all one word."""

    def __init__(self, cells, word=0):
        if not is_number(cells, MOST_CELLS) or cells < 1 or not is_word(word):
            raise NoChip(f"no store: {cells} cells of {word}")
        Chip.__init__(self, "store", [word] * cells)


class Fixed(Chip):
    """Cells of words that no writing changes."""

    def __init__(self, words):
        held = list(words)
        if not 1 <= len(held) <= MOST_CELLS or not all([is_word(word) for word in held]):
            raise NoChip(f"no fixed chip: {len(held)} cells")
        Chip.__init__(self, "fixed", held)

    def write(self, cell, word):
        """Write nothing, but refuse what any chip refuses."""
        self.check_write(cell, word)


class Latch(Chip):
    """One word in one cell, by which rows of a map may answer or not."""

    def __init__(self, word=0):
        if not is_word(word):
            raise NoChip(f"no latch: {word}")
        Chip.__init__(self, "latch", [word])


class Meter(Chip):
    """One word in one cell that counts the readings."""

    def __init__(self, word=0):
        if not is_word(word):
            raise NoChip(f"no meter: {word}")
        Chip.__init__(self, "meter", [word])

    def read(self, cell):
        """The word, to which 1 is then added, 255 becoming 0."""
        word = self.look(cell)
        self.held[cell] = (word + 1) % (LAST_WORD + 1)
        return word


class Pipe(Chip):
    """Words that are taken out of cell 0 in the order in which they were put in; cell 1 counts them."""

    def __init__(self, room=4):
        if not is_number(room, MOST_ROOM) or room < 1:
            raise NoChip(f"no pipe: room for {room}")
        Chip.__init__(self, f"pipe {two_figures(room)}", [])
        self.room = room

    def __len__(self):
        return 2

    def look(self, cell):
        """The first word, 0 where there is none; in cell 1 how many there are."""
        self.check_cell(cell)
        if cell == 1:
            return len(self.held)
        return self.held[0] if self.held else 0

    def read(self, cell):
        """The first word, which is taken out; in cell 1 how many there are."""
        word = self.look(cell)
        if cell == 0:
            del self.held[:1]
        return word

    def write(self, cell, word):
        """Put the word behind the others, or lose it where there is no room; in cell 1 empty the pipe."""
        self.check_write(cell, word)
        if cell == 1:
            self.held.clear()
        elif len(self.held) < self.room:
            self.held.append(word)

"""The refusals: each class stands straight under BusError."""


class BusError(ValueError):
    """Any refusal."""


class TooMany(BusError):
    """More numbers would have to be told than are let by."""


class NoChip(BusError):
    """Numbers of cells, words or room that make no chip."""


class NoCell(BusError):
    """A cell's number that is not the chip's."""


class NoMap(BusError):
    """Bits, rows and chips that make no board."""


class NoWatch(BusError):
    """What makes no watch, or the number of none."""


class NoMover(BusError):
    """The number or place of no mover."""


class NoText(BusError):
    """A text that nothing writes."""


class NoWord(BusError):
    """A number that is no word."""

    def __init__(self, word):
        BusError.__init__(self, f"no word: {word}")
        self.word = word


class NoAddress(BusError):
    """A number that is no address of the board."""

    def __init__(self, address):
        BusError.__init__(self, f"no address: {address}")
        self.address = address


class Clash(BusError):
    """Two rows of a map that answer at once."""

    def __init__(self, address, first, second, words):
        BusError.__init__(self, f"rows {first} and {second} clash at {address} by {words}")
        self.address = address
        self.first = first
        self.second = second
        self.words = words


class BadRow(BusError):
    """A row of a run's text that tells no deed."""

    def __init__(self, number, row):
        BusError.__init__(self, f"row {number} tells no deed: {row}")
        self.number = number
        self.row = row

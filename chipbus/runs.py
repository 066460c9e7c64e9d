"""Runs: deeds on a board, told as the rows of a text."""

from chipbus.errors import BadRow
from chipbus.figures import signed_of, sixteen_of, ten_of
from chipbus.movers import Mover, turns

# What each word behind a row's letter tells, by the letter and how many words stand behind it.
PARTS = {
    ("r", 1): ("address",),
    ("q", 1): ("address",),
    ("w", 2): ("address", "word"),
    ("t", 1): ("count",),
    ("m", 3): ("address", "address", "count"),
    ("m", 5): ("address", "address", "count", "step", "step"),
}
MOST_FIGURES = 4


def number_of(part, word):
    """The number that the word tells as such a part of a row, or None."""
    if part == "address":
        return sixteen_of(word, 1, MOST_FIGURES)
    if part == "word":
        return sixteen_of(word, 1, 2)
    if part == "step":
        return signed_of(word, MOST_FIGURES)
    return ten_of(word, MOST_FIGURES)


def deed_of(row):
    """The deed that the row tells, a tuple (letter, numbers), or None."""
    letter, *words = row.split(" ")
    parts = PARTS.get((letter, len(words)))
    if parts is None:
        return None
    numbers = [number_of(part, word) for part, word in zip(parts, words)]
    return None if None in numbers else (letter, numbers)


def deeds_of(text):
    """The deeds of all rows, or BadRow for the first row that tells none."""
    deeds = []
    # Splitting "" would make one empty row of it.
    rows = text.split("\n") if text else []
    for number, row in enumerate(rows, start=1):
        deed = deed_of(row)
        if deed is None:
            raise BadRow(number, row)
        deeds.append(deed)
    return deeds


def set_mover(board, movers, numbers):
    """Put a mover behind those set before, and tell its number."""
    source, target, many = numbers[:3]
    step, by = numbers[3:] or [1, 1]
    movers.append(Mover(board, source, target, many, step, by))
    return len(movers) - 1


def done(board, movers, letter, numbers):
    """Do one deed, and tell what is told of it."""
    if letter == "m":
        return set_mover(board, movers, numbers)
    if letter == "t":
        return turns(movers, numbers)[0]
    if letter == "w":
        return board.write(numbers[0], numbers[1])
    return board.read(numbers[0], letter == "q")


def run(board, text):
    """Do all deeds of the text on the board, and tell a list with one for each row."""
    movers = []
    return [done(board, movers, letter, numbers) for letter, numbers in deeds_of(text)]

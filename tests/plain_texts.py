"""Plain readings of texts by patterns, and plain writings, against which the program's are held.

Nothing here uses the program.
"""

import re

import plain

WORD = "[0-9a-f]{2}"
CHIP_NUMBER = "0|[1-9][0-9]?"
ADDRESS = "([0-9a-f]{1,4})"
COUNT = "(0|[1-9][0-9]{0,3})"
STEP = "(0|-?[1-9][0-9]{0,3})"
DEEDS = (f"(r) {ADDRESS}", f"(q) {ADDRESS}", f"(w) {ADDRESS} ([0-9a-f]{{1,2}})", f"(t) {COUNT}",
         f"(m) {ADDRESS} {ADDRESS} {COUNT}", f"(m) {ADDRESS} {ADDRESS} {COUNT} {STEP} {STEP}")
BASES = {"r": (16,), "q": (16,), "w": (16, 16), "t": (10,), "m": (16, 16, 10, 10, 10)}


def chip_of(text):
    """What the text tells as (kind, words, room), or None where no chip has this text."""
    found = re.fullmatch(f"(store|fixed|latch|meter|pipe)((?: {WORD})+)", text)
    if found is None:
        return None
    kind, words = found[1], tuple(int(word, 16) for word in found[2].split())
    if kind == "pipe":
        return (kind, words[1:], words[0]) if 1 <= words[0] >= len(words) - 1 else None
    most = 1 if kind in ("latch", "meter") else 4096
    return (kind, words, None) if len(words) <= most else None


def row_of(bits, text):
    """The row that the text tells by its form alone, or None."""
    number = "([0-9a-f]{%d})" % len("%x" % (2 ** bits - 1))
    form = f"row {number} {number} {number} ({CHIP_NUMBER})(?: latch ({CHIP_NUMBER}) ({WORD}) ({WORD}))?"
    found = re.fullmatch(form, text)
    if found is None:
        return None
    latch = None if found[5] is None else (int(found[5]), int(found[6], 16), int(found[7], 16))
    return tuple(int(found[part], 16) for part in (1, 2, 3)) + (int(found[4]), latch)


def taken(bits, row, chips):
    """Whether a board of these chips, told as (kind, words, room), would take the row."""
    mask, want, inner, chip, latch = row
    if max(mask, want, inner) >= 2 ** bits or want | mask != mask or inner & mask or chip >= len(chips):
        return False
    if 2 ** len(plain.places(inner)) > plain.Chip(*chips[chip]).cells():
        return False
    if latch is None:
        return True
    return latch[0] < len(chips) and chips[latch[0]][0] == "latch" and latch[2] | latch[1] == latch[1]


def board_of(text):
    """What the text tells as (bits, rows, chips, floating), or None where no board has this text."""
    found = re.fullmatch(f"bits ([1-9]|1[0-6])\n((?:chip .*\n)*)((?:row .*\n)*)floats ({WORD})\n", text)
    if found is None:
        return None
    bits = int(found[1])
    chips = [chip_of(line[5:]) for line in found[2].split("\n")[:-1]]
    rows = tuple(row_of(bits, line) for line in found[3].split("\n")[:-1])
    if None in chips or None in rows or not all(taken(bits, row, chips) for row in rows):
        return None
    return None if plain.clash_of(bits, rows) else (bits, rows, chips, int(found[4], 16))


def text_of(board):
    """The text of a plain board."""
    form = "%%0%dx" % len("%x" % (2 ** board.bits - 1))
    lines = ["bits %d" % board.bits] + ["chip " + chip.text() for chip in board.chips]
    for mask, want, inner, chip, latch in board.rows:
        line = "row %s %s %s %d" % (form % mask, form % want, form % inner, chip)
        lines.append(line if latch is None else line + " latch %d %02x %02x" % latch)
    return "".join(line + "\n" for line in lines + ["floats %02x" % board.floating])


def deed_of(row):
    """The letter and the numbers that the row of a run tells, or None."""
    for form in DEEDS:
        found = re.fullmatch(form, row)
        if found is not None:
            letter, *words = found.groups()
            return (letter, [int(word, base) for word, base in zip(words, BASES[letter])])
    return None


def refusal_of(board, movers, letter, numbers):
    """The refusal that is due for the deed, a tuple of its name and field, or None."""
    if letter == "t":
        return None if numbers[0] < len(movers) else ("NoMover",)
    for address in numbers[:2] if letter == "m" else numbers[:1]:
        if address >= 2 ** board.bits:
            return ("NoAddress", address)
    return None


def done(board, movers, letter, numbers):
    if letter == "m":
        step, by = (numbers + [1, 1])[3:5]
        movers.append(plain.Mover(board, *numbers[:3], step, by))
        return len(movers) - 1
    if letter == "t":
        return movers[numbers[0]].turn()
    return {"r": board.read, "q": board.look, "w": board.write}[letter](*numbers)


def run(board, text):
    """What a run on the plain board tells: a list, or a tuple of a refusal's name and fields."""
    rows = text.split("\n") if text else []
    deeds = [deed_of(row) for row in rows]
    if None in deeds:
        first = deeds.index(None)
        return ("BadRow", first + 1, rows[first])
    movers, told = [], []
    for letter, numbers in deeds:
        refusal = refusal_of(board, movers, letter, numbers)
        if refusal is not None:
            return refusal
        told.append(done(board, movers, letter, numbers))
    return told

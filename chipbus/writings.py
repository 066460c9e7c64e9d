"""Writings: boards written as texts, and boards and chips read back from them."""

from chipbus.boards import Board
from chipbus.chips import Fixed, Latch, Meter, Pipe, Store
from chipbus.errors import Clash, NoChip, NoMap, NoText
from chipbus.figures import by_figures, sixteen_of, ten_of, two_figures

# Bits are at most 16, and a row's chips at most 99.
MOST_FIGURES = 2


def address_figures(bits):
    """How many figures of the base sixteen the greatest address of so many bits has."""
    return (bits + 3) // 4


def show_latch(latch):
    """The words of a row's text for its latch."""
    if latch is None:
        return []
    chip, mask, want = latch
    return ["latch", str(chip), two_figures(mask), two_figures(want)]


def show_row(row, many):
    """The text of a row of the map, with so many figures for numbers over the address."""
    mask, want, inner, chip, latch = row
    words = ["row"] + [by_figures(number, many) for number in (mask, want, inner)] + [str(chip)]
    return " ".join(words + show_latch(latch))


def show_board(board):
    """The board's text."""
    bits = board.bits_of()
    lines = [f"bits {bits}"]
    lines += [f"chip {chip}" for chip in board.chips_of()]
    lines += [show_row(row, address_figures(bits)) for row in board.rows_of()]
    lines.append(f"floats {two_figures(board.floats())}")
    return "".join([f"{line}\n" for line in lines])


def read_sixteen(text, many):
    """The number of just so many figures of the base sixteen."""
    number = sixteen_of(text, many, many)
    if number is None:
        raise NoText(f"not {many} figures of the base sixteen: {text}")
    return number


def read_word(text):
    """The word of two figures."""
    return read_sixteen(text, 2)


def read_ten(text):
    """The number of figures of the base ten."""
    number = ten_of(text, MOST_FIGURES)
    if number is None:
        raise NoText(f"no number of bits or of a chip: {text}")
    return number


def words_behind(words, head, many):
    """The words behind the head, which must be there with so many."""
    if words[0] != head or len(words) != many + 1:
        raise NoText(f"not {head} and {many} more")
    return words[1:]


def filled_store(held):
    """A store of the words held."""
    store = Store(len(held))
    for cell, word in enumerate(held):
        store.write(cell, word)
    return store


def fixed_of(held):
    """A fixed one of the words held."""
    return Fixed(held)


def only_word(held):
    """The word held by a chip of one cell."""
    if len(held) != 1:
        raise NoText(f"{len(held)} words for one cell")
    return held[0]


def latch_of(held):
    """A latch of the word held."""
    return Latch(only_word(held))


def meter_of(held):
    """A meter of the word held."""
    return Meter(only_word(held))


def filled_pipe(held):
    """A pipe of the room and the words behind it."""
    if not held:
        raise NoText("a pipe without room")
    room, *words = held
    if len(words) > room:
        raise NoText(f"{len(words)} words in a pipe with room for {room}")
    pipe = Pipe(room)
    for word in words:
        pipe.write(0, word)
    return pipe


KINDS = {"store": filled_store, "fixed": fixed_of, "latch": latch_of, "meter": meter_of, "pipe": filled_pipe}


def read_chip(text):
    """The chip of a chip's text."""
    kind, *words = text.split(" ")
    build = KINDS.get(kind)
    if build is None:
        raise NoText(f"no kind of chip: {kind}")
    held = [read_word(word) for word in words]
    try:
        return build(held)
    except NoChip:
        raise NoText(f"no such {kind}") from None


def read_latch(words):
    """The latch that a row's last words tell, None where there are none."""
    if not words:
        return None
    chip, mask, want = words_behind(words, "latch", 3)
    return (read_ten(chip), read_word(mask), read_word(want))


def read_row(line, bits):
    """The row of the map that the line tells."""
    words = line.split(" ")
    mask, want, inner, chip = words_behind(words[:5], "row", 4)
    numbers = [read_sixteen(word, address_figures(bits)) for word in (mask, want, inner)]
    return tuple(numbers) + (read_ten(chip), read_latch(words[5:]))


def made_board(bits, rows, chips, floating):
    """The board, refused with NoText where no board would take the map."""
    try:
        return Board(bits, rows, chips, floating)
    except (NoMap, Clash):
        raise NoText("no board would take the map") from None


def read_board(text):
    """The board of a board's text, with new chips."""
    lines = text.split("\n")
    if len(lines) < 3 or lines[-1] != "":
        raise NoText("no rows of bits and floats, each ended by a line feed")
    bits = read_ten(words_behind(lines[0].split(" "), "bits", 1)[0])
    floating = read_word(words_behind(lines[-2].split(" "), "floats", 1)[0])
    chips, rows = [], []
    for line in lines[1:-2]:
        head, blank, rest = line.partition(" ")
        if head == "chip" and not rows:
            chips.append(read_chip(rest))
        else:
            rows.append(read_row(line, bits))
    return made_board(bits, tuple(rows), chips, floating)

"""Rows, maps and chips made for the tests, alike in every run."""

import random

import plain
from chipbus.chips import Fixed, Latch, Meter, Pipe, Store


def part_of(chance, mask):
    """Some number whose ones are ones of mask."""
    return chance.getrandbits(16) & mask


def some_latch(chance):
    if chance.randrange(3) == 0:
        return None
    mask = chance.getrandbits(2)
    return (chance.randrange(2), mask, part_of(chance, mask))


def some_row(chance, bits):
    every = 2 ** bits - 1
    mask = chance.getrandbits(bits)
    return (mask, part_of(chance, mask), part_of(chance, every & ~mask), chance.randrange(3), some_latch(chance))


def some_maps(seed, many, most_bits, most_rows):
    """Tuples (bits, map), with clashes and without."""
    chance = random.Random(seed)
    told = []
    while len(told) < many:
        bits = chance.randint(1, most_bits)
        rows = tuple(some_row(chance, bits) for count in range(chance.randint(0, most_rows)))
        told.append((bits, rows))
    return told


def split_map(seed, bits, many):
    """A map of many rows that leaves no address unanswered and in which no two rows meet.

    It starts with one row of the whole board and splits some row at some free bit again and again.
    """
    chance = random.Random(seed)
    every = 2 ** bits - 1
    rows = [(0, 0)]
    while len(rows) < many:
        mask, want = rows.pop(chance.randrange(len(rows)))
        free = [2 ** place for place in range(bits) if not mask & 2 ** place]
        if not free:
            rows.append((mask, want))
            continue
        single = chance.choice(free)
        rows += [(mask | single, want), (mask | single, want | single)]
    return tuple((mask, want, every & ~mask, number % 100, None) for number, (mask, want) in enumerate(rows))


def some_chip(chance):
    """What a chip is made of: a tuple (kind, words, room) with room None but for a pipe."""
    kind = chance.choice(("store", "fixed", "latch", "latch", "meter", "pipe"))
    if kind == "pipe":
        return (kind, (), chance.randint(1, 4))
    word = chance.choice((0, 1, 2, 3, 254, 255))
    if kind == "store":
        return (kind, (word,) * chance.randint(1, 9), None)
    if kind == "fixed":
        return (kind, tuple(chance.randrange(256) for cell in range(chance.randint(1, 9))), None)
    return (kind, (word,), None)


def built(told):
    """The program's chip of what some_chip tells."""
    kind, words, room = told
    if kind == "store":
        return Store(len(words), words[0])
    if kind == "fixed":
        return Fixed(list(words))
    if kind == "pipe":
        return Pipe(room)
    return {"latch": Latch, "meter": Meter}[kind](words[0])


def cells_of(told):
    return 2 if told[0] == "pipe" else len(told[1])


def some_fitting_row(chance, bits, chips):
    """A row for these chips, as some_chip tells them, with an inner that has cells enough."""
    number = chance.randrange(len(chips))
    mask = chance.getrandbits(bits)
    inner = part_of(chance, (2 ** bits - 1) & ~mask)
    while 2 ** bin(inner).count("1") > cells_of(chips[number]):
        inner &= inner - 1
    latches = [place for place, told in enumerate(chips) if told[0] == "latch"]
    latch = None
    if latches and chance.randrange(3):
        over = chance.getrandbits(2)
        latch = (chance.choice(latches), over, part_of(chance, over))
    return (mask, part_of(chance, mask), inner, number, latch)


def some_fitting_map(chance, bits, chips, most_rows):
    """A map without clash for these chips."""
    rows = ()
    for count in range(6 * most_rows):
        more = rows + (some_fitting_row(chance, bits, chips),)
        if len(more) <= most_rows and plain.clash_of(bits, more) is None:
            rows = more
    return rows

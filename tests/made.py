"""Rows and maps made for the tests, alike in every run."""

import random


def part_of(chance, mask):
    """Some number whose ones are ones of mask."""
    return chance.getrandbits(16) & mask


def some_latch(chance):
    if chance.randrange(3) == 0:
        return None
    mask = chance.getrandbits(2)
    return (chance.randrange(2), mask, part_of(chance, mask))


def some_row(chance, bits):
    every = 2 ** bits - 1
    mask = chance.getrandbits(bits)
    return (mask, part_of(chance, mask), part_of(chance, every & ~mask), chance.randrange(3), some_latch(chance))


def some_maps(seed, many, most_bits, most_rows):
    """Tuples (bits, map), with clashes and without."""
    chance = random.Random(seed)
    told = []
    while len(told) < many:
        bits = chance.randint(1, most_bits)
        rows = tuple(some_row(chance, bits) for count in range(chance.randint(0, most_rows)))
        told.append((bits, rows))
    return told


def split_map(seed, bits, many):
    """A map of many rows that leaves no address unanswered and in which no two rows meet.

    It starts with one row of the whole board and splits some row at some free bit again and again.
    """
    chance = random.Random(seed)
    every = 2 ** bits - 1
    rows = [(0, 0)]
    while len(rows) < many:
        mask, want = rows.pop(chance.randrange(len(rows)))
        free = [2 ** place for place in range(bits) if not mask & 2 ** place]
        if not free:
            rows.append((mask, want))
            continue
        single = chance.choice(free)
        rows += [(mask | single, want), (mask | single, want | single)]
    return tuple((mask, want, every & ~mask, number % 100, None) for number, (mask, want) in enumerate(rows))

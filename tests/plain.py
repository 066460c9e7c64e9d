"""Plain goings through of addresses, pairs of rows and words, to hold the program's answers against.

Nothing here uses the program: each bit, address and word is tried one by one.
"""

import functools


def bit(number, place):
    return (number // 2 ** place) % 2


@functools.lru_cache(maxsize=None)
def places(mask):
    return tuple(place for place in range(80) if bit(mask, place))


def fits(number, mask, want):
    return all(bit(number, place) == bit(want, place) for place in places(mask))


def gathered(mask, number):
    return sum(2 ** k for k, place in enumerate(places(mask)) if bit(number, place))


def spread(mask, number):
    return sum(2 ** place for k, place in enumerate(places(mask)) if bit(number, k))


def meets(row, address):
    return fits(address, row[0], row[1])


def answers(row, address, words):
    if not meets(row, address):
        return False
    return row[4] is None or fits(words.get(row[4][0], 0), row[4][1], row[4][2])


def addresses_of(bits, row, cell):
    return [at for at in range(2 ** bits) if meets(row, at) and gathered(row[2], at) == cell]


def least_words(one, other):
    """The least words by which both latches let answer, tried word by word, or None."""
    latches = [row[4] for row in (one, other) if row[4] is not None]
    told = []
    for chip in sorted({latch[0] for latch in latches}):
        asked = [latch for latch in latches if latch[0] == chip]
        letting = [word for word in range(256) if all(fits(word, latch[1], latch[2]) for latch in asked)]
        if not letting:
            return None
        told.append((chip, letting[0]))
    return tuple(told)


def clash_of(bits, rows):
    for address in range(2 ** bits):
        for first in range(len(rows)):
            for second in range(first + 1, len(rows)):
                if meets(rows[first], address) and meets(rows[second], address):
                    words = least_words(rows[first], rows[second])
                    if words is not None:
                        return (address, first, second, words)
    return None


def all_answering(rows, address, words):
    return [number for number, row in enumerate(rows) if answers(row, address, words)]


def holes(bits, rows, words):
    return [address for address in range(2 ** bits) if not all_answering(rows, address, words)]

"""Clashes of a map's rows, and which row answers by what the latches hold."""

from chipbus.bits import ones_of
from chipbus.maps import meets, size_of


def choices_agree(mask, want, other_mask, other_want):
    """Whether some number has the bits that both wants ask for at their masks' ones."""
    return (want ^ other_want) & mask & other_mask == 0


def latches_agree(latch, other):
    """Whether some words of the latches let both answer."""
    if latch is None or other is None or latch[0] != other[0]:
        return True
    return choices_agree(latch[1], latch[2], other[1], other[2])


def rows_clash(row, other):
    """Whether both rows answer at some address by some words."""
    return choices_agree(row[0], row[1], other[0], other[1]) and latches_agree(row[4], other[4])


def least_words(row, other):
    """The least words by which two clashing rows both answer, by rising chip."""
    least = {}
    for latch in (row[4], other[4]):
        if latch is not None:
            chip = latch[0]
            least[chip] = least.get(chip, 0) | latch[2]
    return tuple(sorted(least.items()))


def clash_of(rows):
    """The clash (address, first, second, words) of the map rows, or None."""
    found = []
    for second, other in enumerate(rows):
        for first, row in enumerate(rows[:second]):
            if rows_clash(row, other):
                # No number that has all bits that both want is less than these bits alone.
                found.append((row[1] | other[1], first, second))
    if not found:
        return None
    address, first, second = min(found)
    return (address, first, second, least_words(rows[first], rows[second]))


def is_awake(row, words):
    """Whether the words of the latches let the row answer."""
    latch = row[4]
    if latch is None:
        return True
    chip, mask, want = latch
    return words.get(chip, 0) & mask == want


def answering(rows, address, words):
    """The number of the row that answers at the address by these words, or None."""
    for number, row in enumerate(rows):
        if meets(row, address) and is_awake(row, words):
            return number
    return None


def holes_among(rows, start, size):
    """How many of the size addresses from start on none of the rows meets.

    size is a power of two, start a multiple of it. No two of the rows meet at
    one address, so how many each one meets may be summed.
    """
    met = 0
    for row in rows:
        mask, want = row[:2]
        if (start ^ want) & mask < size:
            met += size >> ones_of(mask & (size - 1))
    return size - met


def unanswered(bits, rows, words):
    """How many addresses no row of a map without clash answers by these words."""
    return holes_among([row for row in rows if is_awake(row, words)], 0, size_of(bits))


def least_hole(bits, rows, words):
    """The least address that no row of a map without clash answers by these words, or None."""
    awake = [row for row in rows if is_awake(row, words)]
    size = size_of(bits)
    if holes_among(awake, 0, size) == 0:
        return None
    start = 0
    while size > 1:
        size //= 2
        if holes_among(awake, start, size) == 0:
            start += size
    return start

"""Bits: counting a mask's ones, and taking numbers apart by them."""

from chipbus.errors import TooMany

MOST_ONES = 12


def single_ones(mask):
    """The numbers of one bit each that mask is the sum of, rising."""
    singles = []
    while mask > 0:
        rest = mask & (mask - 1)
        singles.append(mask - rest)
        mask = rest
    return singles


def ones_of(mask):
    """How many ones mask has."""
    return len(single_ones(mask))


def gathered(mask, number):
    """The number whose bit k is number's bit at the mask's one k."""
    return sum([1 << k for k, single in enumerate(single_ones(mask)) if number & single])


def spread(mask, number):
    """The number that has at the mask's one k the bit k of number, and no other bits."""
    return sum([single for k, single in enumerate(single_ones(mask)) if (number >> k) & 1])


def parts_of(mask):
    """All numbers whose ones are ones of mask, rising; TooMany beyond twelve ones."""
    singles = single_ones(mask)
    if len(singles) > MOST_ONES:
        raise TooMany(f"{len(singles)} free bits make too many numbers")
    parts = [0]
    for single in singles:
        # A later single is greater than all parts so far together, so the list stays rising.
        parts = parts + [part + single for part in parts]
    return parts

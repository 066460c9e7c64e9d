"""Whole numbers from 0 on, and words: what is one, and how a word is written."""

from chipbus.errors import NoWord

LAST_WORD = 255
FIGURES = "0123456789abcdef"


def is_number(thing, last):
    """Whether thing, which may be anything, is a whole number from 0 to last."""
    return isinstance(thing, int) and not isinstance(thing, bool) and 0 <= thing <= last


def is_word(thing):
    """Whether thing, which may be anything, is a word."""
    return is_number(thing, LAST_WORD)


def check_word(word):
    """Refuse a number that is no word."""
    if not is_word(word):
        raise NoWord(word)


def two_figures(word):
    """The word by two figures of the base sixteen."""
    return FIGURES[word // 16] + FIGURES[word % 16]

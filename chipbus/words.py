"""Whole numbers from 0 on, and words: what is one."""

from chipbus.errors import NoWord

LAST_WORD = 255


def is_number(thing, last):
    """Whether thing, which may be anything, is a whole number from 0 to last."""
    return isinstance(thing, int) and not isinstance(thing, bool) and 0 <= thing <= last


def is_word(thing):
    """Whether thing, which may be anything, is a word."""
    return is_number(thing, LAST_WORD)


def check_word(word):
    """Refuse a number that is no word."""
    if not is_word(word):
        raise NoWord(word)

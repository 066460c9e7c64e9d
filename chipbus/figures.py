"""Figures: numbers written by figures of the base sixteen, and read back by those of sixteen or ten."""

TEN = "0123456789"
SIXTEEN = "0123456789abcdef"


def by_figures(number, many):
    """The number by so many figures of the base sixteen."""
    text = ""
    for place in range(many):
        text = SIXTEEN[(number >> (4 * place)) & 15] + text
    return text


def two_figures(word):
    """The word by two figures of the base sixteen."""
    return by_figures(word, 2)


def are_figures(text, figures):
    """Whether the text has signs, and all of them are among the figures."""
    return text != "" and all([sign in figures for sign in text])


def sixteen_of(text, fewest, most):
    """The number that the text tells by fewest to most figures of the base sixteen, or None."""
    if not fewest <= len(text) <= most or not are_figures(text, SIXTEEN):
        return None
    return int(text, 16)


def ten_of(text, most):
    """The number that the text tells by at most so many figures of the base ten, or None.

    The first figure is no 0 where there are several.
    """
    # The length goes first, because Python refuses to read a number of very many figures of the base ten.
    if len(text) > most or not are_figures(text, TEN) or (text[0] == "0" and text != "0"):
        return None
    return int(text)


def signed_of(text, most):
    """The number that the text tells as in ten_of, or below 0 with - ahead of the figures, or None."""
    if not text.startswith("-"):
        return ten_of(text, most)
    number = ten_of(text[1:], most)
    return None if number is None or number == 0 else -number

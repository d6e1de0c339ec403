"""Whole numbers in texts, written as str writes them."""

from peakroll.errors import NoText

WIDE_FIGURES = 30
NUMBER_FIGURES = 40


def whole_of(word, most):
    """The number that is written by the word, in at most so many figures; None where the word writes none."""
    figures = word.removeprefix("-")
    # The length is looked at first: Python refuses to read numbers of some thousand figures.
    if len(figures) > most:
        return None
    if not (figures.isascii() and figures.isdigit()):
        return None
    if figures[0] == "0" and word != "0":
        return None
    return int(word)


def read_wide(word):
    number = whole_of(word, WIDE_FIGURES)
    if number is None:
        raise NoText("a number is read as it is written, with at most thirty figures")
    return number

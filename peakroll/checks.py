"""What counts as a whole number, a wide number, a list, a key, a source; and the refusals of moments, rolls, numbers
and of what is no text."""

from peakroll.errors import NoMoment, NoNumber, NoRoll, NoText

WIDE_END = 10 ** 30
NUMBER_END = 10 ** 40
LETTERS = "abcdefghijklmnopqrstuvwxyz"
KEY_SIGNS = LETTERS + "0123456789"
MOST_KEY_SIGNS = 8
MOST_SOURCE_SIGNS = 6


def is_whole(value):
    return isinstance(value, int) and not isinstance(value, bool)


def is_whole_from(value, least, greatest):
    return is_whole(value) and least <= value <= greatest


def is_wide(value):
    # Figures are not counted in a text: Python refuses to write numbers of some thousand figures.
    return is_whole(value) and -WIDE_END < value < WIDE_END


def is_list(value):
    return isinstance(value, (list, tuple))


def is_list_from(value, fewest, most):
    return is_list(value) and fewest <= len(value) <= most


def is_word(value, signs, most):
    return isinstance(value, str) and 1 <= len(value) <= most and all([sign in signs for sign in value])


def is_key(value):
    return is_word(value, KEY_SIGNS, MOST_KEY_SIGNS)


def is_source(value):
    return is_word(value, LETTERS, MOST_SOURCE_SIGNS)


def need_moment(value):
    if not is_wide(value):
        raise NoMoment("a moment is a whole number of at most thirty figures")


def need_roll(value, least, greatest):
    if not is_whole_from(value, least, greatest):
        raise NoRoll("the ladder has no such roll that can be asked here")


def need_number(value):
    if not is_whole(value) or not -NUMBER_END < value < NUMBER_END:
        raise NoNumber("a bar's number is a whole number of at most forty figures")


def need_text(value):
    if not isinstance(value, str):
        raise NoText("only a text is read")

"""What counts as a whole number, a wide number, a list; and the refusals of moments, rolls and numbers."""

from peakroll.errors import NoMoment, NoNumber, NoRoll

WIDE_END = 10 ** 30
NUMBER_END = 10 ** 40


def is_whole(value):
    return isinstance(value, int) and not isinstance(value, bool)


def is_whole_from(value, least, greatest):
    return is_whole(value) and least <= value <= greatest


def is_wide(value):
    # Figures are not counted in a text: Python refuses to write numbers of some thousand figures.
    return is_whole(value) and -WIDE_END < value < WIDE_END


def is_list(value):
    return isinstance(value, (list, tuple))


def is_list_from(value, fewest, most):
    return is_list(value) and fewest <= len(value) <= most


def need_moment(value):
    if not is_wide(value):
        raise NoMoment("a moment is a whole number of at most thirty figures")


def need_roll(value, least, greatest):
    if not is_whole_from(value, least, greatest):
        raise NoRoll("the ladder has no such roll that can be asked here")


def need_number(value):
    if not is_whole(value) or not -NUMBER_END < value < NUMBER_END:
        raise NoNumber("a bar's number is a whole number of at most forty figures")

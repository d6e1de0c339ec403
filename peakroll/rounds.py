"""Sizes that lie one behind another from a beginning on, again and again, and likewise back ahead of it."""


def first_of(begin, sizes, number):
    """The first place of the size with that number; number 0 begins at the beginning."""
    turns, at = divmod(number, len(sizes))
    return begin + turns * sum(sizes) + sum(sizes[:at])


def size_of(sizes, number):
    return sizes[number % len(sizes)]


def number_of(begin, sizes, place):
    """The number of the size in which the place lies."""
    turns, rest = divmod(place - begin, sum(sizes))
    at = 0
    while rest >= sizes[at]:
        rest -= sizes[at]
        at += 1
    return turns * len(sizes) + at

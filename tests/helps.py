"""What several test files need: wrong things, a check for refusals, and ladders laid out slowly, bar by bar."""

import unittest

from peakroll import errors

MOST_WIDE = 10 ** 30 - 1
MOST_NUMBER = 10 ** 40 - 1


class Odd:
    """A thing of no kind that the document tells."""

    def __eq__(self, other):
        raise RuntimeError("not to be compared")

    __hash__ = None

    def __repr__(self):
        raise RuntimeError("not to be shown")


def ring():
    things = []
    things.append(things)
    return things


# Never a whole number, whatever is asked; the text and the lists hold what would be right without them.
NO_WHOLES = [None, True, False, "", "0", "1", "a text", b"1", [], [0], [1], (), (1,), {}, {1: 1}, {1}, frozenset([1]),
             range(3), bytearray(b"1"), 1j, object(), Odd(), ring(), int, len, iter([1]), NotImplemented, ...]

# Whole numbers that are wide no more; the last ones are too long for Python to write.
NO_WIDES = [MOST_WIDE + 1, -MOST_WIDE - 1, 10 ** 40, -10 ** 40, 10 ** 5000, -10 ** 5000]

NO_NUMBERS = [MOST_NUMBER + 1, -MOST_NUMBER - 1, 10 ** 41, 10 ** 5000, -10 ** 5000]

# Neither a list nor a tuple.
NO_LISTS = [None, True, False, 0, 1, -1, "", "1", "12", b"", b"\x01", {}, {1: 1}, {1}, frozenset([1]), range(1, 3),
            bytearray(b"\x01"), object(), Odd(), iter([1]), list, len, 10 ** 5000]


class Case(unittest.TestCase):

    def refused(self, kind, call, *things):
        """The call is refused with just that class."""
        try:
            told = call(*things)
        except errors.PeakError as error:
            self.assertIs(type(error), kind)
            return
        self.fail(f"not refused but {told!r}")


# (begin, parts, rows), small enough to be laid out bar by bar.
SMALL = [
    (0, [1], []),
    (5, [3], []),
    (-4, [2, -3], []),
    (0, [2, -1, 3, -2, -4], [(0, [2]), (1, [1, 2, 3])]),
    (7, [1, -1, -1, -1], [(-2, [3]), (5, [2, 1])]),
    (3, [1, 2, 3], [(2, [1])]),
    (-1, [1, -1] * 6, [(0, [5, 1])]),
    (2, [1] * 12, [(-7, [2, 3])]),
    (1, [4, -11, -1, 2], [(3, [1, 2]), (-1, [2]), (4, [1, 1, 2]), (-2, [3, 1])]),
    (-9, [2, 1, -2], [(-5, [1, 2, 3, 4, 5, 6, 7, 8, 9, 10, 11, 12])]),
]


def slow_bars(begin, parts, rounds):
    """Roll 0 laid out part by part: a dict of each bar's number to (first moment, first shut one, first behind it)."""
    bars = {}
    number, at = -1, begin
    for part in parts * rounds:
        if part > 0:
            number += 1
            bars[number] = (at, at + part, at + part)
            at += part
        else:
            at -= part
            bars[number] = bars[number][:2] + (at,)
    number, at, behind = 0, begin, begin
    for part in reversed(parts * rounds):
        at -= abs(part)
        if part > 0:
            number -= 1
            bars[number] = (at, at + part, behind)
            behind = at
    return bars


def slow_groups(begin, sizes, rounds):
    """A greater roll laid out size by size: a dict of each bar's number to the list of its lesser bars' numbers."""
    groups = {}
    at = begin
    for number, size in enumerate(sizes * rounds):
        groups[number] = list(range(at, at + size))
        at += size
    at = begin
    for number, size in enumerate(reversed(sizes * rounds), start=1):
        groups[-number] = list(range(at - size, at))
        at -= size
    return groups


def slow_rolls(begin, parts, rows, rounds):
    """All rolls laid out: a list, for each roll, of dicts of a bar's number to (first moment, first behind it)."""
    rolls = [{number: (bar[0], bar[2]) for number, bar in slow_bars(begin, list(parts), rounds).items()}]
    for start, sizes in rows:
        below = rolls[-1]
        groups = slow_groups(start, list(sizes), rounds)
        rolls.append({number: (below[group[0]][0], below[group[-1]][1]) for number, group in groups.items()
                      if group[0] in below and group[-1] in below})
    return rolls

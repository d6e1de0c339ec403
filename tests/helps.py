"""What several test files need: wrong things, a check for refusals, ladders laid out slowly, bar by bar, covers made
slowly, moment by moment, and bars made slowly, entry by entry."""

import random
import unittest

from peakroll import errors

MOST_WIDE = 10 ** 30 - 1
MOST_NUMBER = 10 ** 40 - 1
BILLION = 1000000000


class Odd:
    """A thing of no kind that the document tells."""

    def __eq__(self, other):
        raise RuntimeError("not to be compared")

    __hash__ = None

    def __repr__(self):
        raise RuntimeError("not to be shown")


def ring():
    things = []
    things.append(things)
    return things


# Never a whole number, whatever is asked; the text and the lists hold what would be right without them.
NO_WHOLES = [None, True, False, "", "0", "1", "a text", b"1", [], [0], [1], (), (1,), {}, {1: 1}, {1}, frozenset([1]),
             range(3), bytearray(b"1"), 1j, object(), Odd(), ring(), int, len, iter([1]), NotImplemented, ...]

# Whole numbers that are wide no more; the last ones are too long for Python to write.
NO_WIDES = [MOST_WIDE + 1, -MOST_WIDE - 1, 10 ** 40, -10 ** 40, 10 ** 5000, -10 ** 5000]

NO_NUMBERS = [MOST_NUMBER + 1, -MOST_NUMBER - 1, 10 ** 41, 10 ** 5000, -10 ** 5000]

# Never a text.
NO_TEXTS = [thing for thing in NO_WHOLES if not isinstance(thing, str)] + [0, 1, -1, 10 ** 5000]

# Neither a list nor a tuple.
NO_LISTS = [None, True, False, 0, 1, -1, "", "1", "12", b"", b"\x01", {}, {1: 1}, {1}, frozenset([1]), range(1, 3),
            bytearray(b"\x01"), object(), Odd(), iter([1]), list, len, 10 ** 5000]


class Case(unittest.TestCase):

    def same(self, told, wanted):
        """Equal, and of the same kinds throughout."""
        self.assertEqual(told, wanted)
        self.assertEqual(kinds_of(told), kinds_of(wanted))

    def refused(self, kind, call, *things):
        """The call is refused with just that class."""
        try:
            told = call(*things)
        except errors.PeakError as error:
            self.assertIs(type(error), kind)
            return
        self.fail(f"not refused but {told!r}")


# (begin, parts, rows), small enough to be laid out bar by bar.
SMALL = [
    (0, [1], []),
    (5, [3], []),
    (-4, [2, -3], []),
    (0, [2, -1, 3, -2, -4], [(0, [2]), (1, [1, 2, 3])]),
    (7, [1, -1, -1, -1], [(-2, [3]), (5, [2, 1])]),
    (3, [1, 2, 3], [(2, [1])]),
    (-1, [1, -1] * 6, [(0, [5, 1])]),
    (2, [1] * 12, [(-7, [2, 3])]),
    (1, [4, -11, -1, 2], [(3, [1, 2]), (-1, [2]), (4, [1, 1, 2]), (-2, [3, 1])]),
    (-9, [2, 1, -2], [(-5, [1, 2, 3, 4, 5, 6, 7, 8, 9, 10, 11, 12])]),
]

# Beginnings of thirty figures, parts of a billion, sizes of a thousand.
FAR = [
    (MOST_WIDE, [1], [(MOST_WIDE, [1])] * 4),
    (-MOST_WIDE, [1], [(-MOST_WIDE, [1])] * 4),
    (MOST_WIDE, [7, -3, 2], [(-MOST_WIDE, [3, 1]), (5, [1000] * 12)]),
    (-MOST_WIDE, [7, -3, -1, 2, -6], [(MOST_WIDE, [2]), (-1, [1, 2, 3]), (0, [7]), (MOST_WIDE, [1, 1000])]),
    (0, [BILLION, -BILLION], [(0, [1000])]),
    (12, [BILLION, -BILLION, BILLION, BILLION, -BILLION, -BILLION] * 2, [(1, [1000, 1])]),
    (-1, [1, -BILLION], [(-1, [999, 1000])]),
]


def slow_bars(begin, parts, rounds):
    """Roll 0 laid out part by part: a dict of each bar's number to (first moment, first shut one, first behind it)."""
    bars = {}
    number, at = -1, begin
    for part in parts * rounds:
        if part > 0:
            number += 1
            bars[number] = (at, at + part, at + part)
            at += part
        else:
            at -= part
            bars[number] = bars[number][:2] + (at,)
    number, at, behind = 0, begin, begin
    for part in reversed(parts * rounds):
        at -= abs(part)
        if part > 0:
            number -= 1
            bars[number] = (at, at + part, behind)
            behind = at
    return bars


def slow_groups(begin, sizes, rounds):
    """A greater roll laid out size by size: a dict of each bar's number to the list of its lesser bars' numbers."""
    groups = {}
    at = begin
    for number, size in enumerate(sizes * rounds):
        groups[number] = list(range(at, at + size))
        at += size
    at = begin
    for number, size in enumerate(reversed(sizes * rounds), start=1):
        groups[-number] = list(range(at - size, at))
        at -= size
    return groups


def slow_rolls(begin, parts, rows, rounds):
    """All rolls laid out: a list, for each roll, of dicts of a bar's number to (first moment, first behind it)."""
    rolls = [{number: (bar[0], bar[2]) for number, bar in slow_bars(begin, list(parts), rounds).items()}]
    for start, sizes in rows:
        below = rolls[-1]
        groups = slow_groups(start, list(sizes), rounds)
        rolls.append({number: (below[group[0]][0], below[group[-1]][1]) for number, group in groups.items()
                      if group[0] in below and group[-1] in below})
    return rolls


def slow_cover(rolls, one, other):
    """The cover of a time on rolls that are laid out: at each moment the greatest bar that lies within."""
    pieces = []
    for moment in range(one, other):
        first, behind = next(bar for bar in rolls[0].values() if bar[0] <= moment < bar[1])
        piece = ("rest", max(first, one), min(behind, other))
        for roll, bars in enumerate(rolls):
            for number, (first, behind) in bars.items():
                if one <= first <= moment < behind <= other:
                    piece = ("bar", roll, number)
        if pieces[-1:] != [piece]:
            pieces.append(piece)
    return pieces


KEY_SIGNS = "abcdefghijklmnopqrstuvwxyz0123456789"

NO_BAR = (0, 0, None, None, None, None)

# Never a key: no signs, nine of them, or one that is none of a to z and 0 to 9.
NO_KEYS = ["", "abcdefghi", "a" * 9, "1" * 9, "a" * 5000, "A", "aB", "Z", "a-b", "-", "-1", "a_b", "_", "a.b", "a:b",
           "a+", "+1", "a\n", "\na", "a\tb", "\ta", "a\r", "a\x00", "\x00", "a\x0b", "\u00e4", "\u00df", "a\u0301",
           "\u0131", "\u0661", "\u00b2", "\uff41", "\uff11", "\u212a", "\ufeffa", "\u00a0", "a\u2028", "\ud800",
           "\U0001d41a", "`", "{", "@", "[", ":"]

# Never a source: no letters, seven of them, or a sign that is none of a to z.
NO_SOURCE_WORDS = ["", " ", "abcdefg", "a" * 7, "a" * 5000, "A", "aB", "Z", "0", "1", "a1", "1a", "a b", " a", "a ",
                   "a-b", "_", "a_", "a.", "a/b", "a\n", "\na", "a\t", "a\r", "a\x00", "\x00", "\u00e4", "\u00df",
                   "a\u0301", "\u0131", "\u0661", "\uff41", "\u212a", "\ufeffa", "\u00a0", "\ud800", "\U0001d41a",
                   "\u00aa", "`", "{", "@", "["]


def some_keys(chance, many):
    """So many unlike keys, of one to eight signs."""
    keys = set()
    while len(keys) < many:
        keys.add("".join(chance.choice(KEY_SIGNS) for _ in range(chance.choice([1, 1, 2, 3, 8]))))
    return chance.sample(sorted(keys), many)


def some_entries(seed, many, low, high):
    """So many entries with unlike keys, moments from low to high and close values, in no order."""
    chance = random.Random(seed)
    return [(chance.randint(low, high), key, chance.randint(-9, 9)) for key in some_keys(chance, many)]


def altered(chance, entries, low, high):
    """The entries with some left out, some put in, some moved and some with another value."""
    rows = []
    for moment, key, value in entries:
        way = chance.choice(["as it is", "as it is", "left out", "moved", "another value"])
        if way == "moved":
            moment = chance.randint(low, high)
        if way == "another value":
            value += chance.choice([-1, 1, 100])
        if way != "left out":
            rows.append((moment, key, value))
    rows += [(chance.randint(low, high), f"new{at}", chance.randint(-9, 9)) for at in range(chance.randint(0, 4))]
    return chance.sample(rows, len(rows))


def far_entries():
    """Moments and values of thirty figures either way, beside near ones."""
    ends = [MOST_WIDE, -MOST_WIDE, 0, 10 ** 29, -10 ** 29]
    return [(moment, f"{at}k{to}", value) for at, moment in enumerate(ends) for to, value in enumerate(ends)]


def comes_ahead(one, other):
    """Whether the one entry's place is ahead of the other's, told sign by sign."""
    if one[0] != other[0]:
        return one[0] < other[0]
    for sign, beside in zip(one[1], other[1]):
        if sign != beside:
            return ord(sign) < ord(beside)
    return len(one[1]) < len(other[1])


def slow_order(entries):
    """The entries as tuples, each put right behind the last one that is not behind it."""
    rows = []
    for entry in entries:
        at = len(rows)
        while at > 0 and comes_ahead(entry, rows[at - 1]):
            at -= 1
        rows.insert(at, tuple(entry))
    return rows


def slow_bar(entries):
    """The bar of entries, grown by one after another."""
    count, total, least, greatest, first, last = NO_BAR
    for entry in entries:
        value = entry[2]
        least = value if count == 0 or value < least else least
        greatest = value if count == 0 or value > greatest else greatest
        first = tuple(entry) if count == 0 or comes_ahead(entry, first) else first
        last = tuple(entry) if count == 0 or comes_ahead(last, entry) else last
        count += 1
        total += value
    return (count, total, least, greatest, first, last)


def listed(thing):
    """The same with lists in the place of all tuples."""
    return [listed(item) for item in thing] if isinstance(thing, (list, tuple)) else thing


def tupled(thing):
    return tuple(tupled(item) for item in thing) if isinstance(thing, (list, tuple)) else thing


def kinds_of(thing):
    """Which kinds stand where: lists and tuples that are equal item by item are told apart by it."""
    return (type(thing), [kinds_of(item) for item in thing] if isinstance(thing, (list, tuple)) else None)

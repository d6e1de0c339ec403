"""The bars of a roll, made of entries or of the next lesser roll's bars; the bar between two moments."""

from peakroll.bars import bar_of, empty, joined
from peakroll.checks import need_roll


def bars_of(ladder, roll, entries):
    # Where there are no entries the ladder isn't asked, and so refuses nothing.
    need_roll(roll, 0, ladder.rolls() - 1)
    return gathered([(ladder.bar_at(roll, entry[0]), bar_of([entry])) for entry in entries])


def rolled(ladder, roll, bars):
    """The bars of the next greater roll."""
    need_roll(roll, 0, ladder.rolls() - 2)
    return gathered([(ladder.greater(roll, number), bar) for number, bar in bars])


def gathered(pairs):
    """Pairs (number, bar), rising, each number once, with all its bars joined."""
    found = {}
    for number, bar in pairs:
        found[number] = joined(found.get(number, empty()), bar)
    return [(number, found[number]) for number in sorted(found)]


def between(entries, one, other):
    """The bar of all entries from the one moment on and ahead of the other."""
    return bar_of([entry for entry in entries if one <= entry[0] < other])

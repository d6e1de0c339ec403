"""Which bars are unlike, of two lists of entries."""

from peakroll.bars import empty
from peakroll.rolls import bars_of


def changes(ladder, one, other):
    """Tuples (roll, number, bar of the one list, bar of the other), by roll, then by number."""
    rows = []
    for roll in range(ladder.rolls()):
        unlike = unlike_bars(dict(bars_of(ladder, roll, one)), dict(bars_of(ladder, roll, other)))
        rows.extend([(roll,) + row for row in unlike])
    return rows


def unlike_bars(one, other):
    """Rising tuples (number, bar, bar) of two dicts of bars by their numbers, in which bars of no entries are left
    out."""
    numbers = sorted({number for bars in (one, other) for number in bars})
    rows = [(number, one.get(number, empty()), other.get(number, empty())) for number in numbers]
    return [row for row in rows if row[1] != row[2]]

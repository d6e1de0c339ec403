"""Covers: a time as a list of pieces, the greatest bars within it and rests at its ends; the bar of such pieces."""

from peakroll.bars import empty, joined
from peakroll.checks import need_moment
from peakroll.errors import NoTime, TooMany
from peakroll.rolls import between

MOST_PIECES = 300


def cover(ladder, one, other):
    """The pieces of the time from the one moment up to the other, one behind another."""
    need_time(one, other)
    begin = first_begun(ladder, one)
    end = ladder.bar_at(0, other)
    # Both moments lie within one bar, behind its first one.
    if begin > end:
        return [("rest", one, other)]
    head = rest_between(one, ladder.stretch(0, begin)[0])
    tail = rest_between(ladder.stretch(0, end)[0], other)
    runs = greatest_runs(ladder, begin, end)
    # Runs may be far too long to be listed, so they are counted first.
    if len(head) + len(tail) + sum([behind - first for roll, first, behind in runs]) > MOST_PIECES:
        raise TooMany("a cover has at most 300 pieces")
    bars = [("bar", roll, number) for roll, first, behind in runs for number in range(first, behind)]
    return head + bars + tail


def need_time(one, other):
    need_moment(one)
    need_moment(other)
    if other <= one:
        raise NoTime("a time goes from a moment up to a later one")


def first_begun(ladder, moment):
    """The number of the first bar of roll 0 that begins at the moment or behind it."""
    number = ladder.bar_at(0, moment)
    if ladder.stretch(0, number)[0] < moment:
        return number + 1
    return number


def rest_between(one, other):
    if one < other:
        return [("rest", one, other)]
    return []


def greatest_runs(ladder, begin, end):
    """The bars of roll 0 from begin up to end as runs (roll, first number, first behind it) of greatest bars, from the
    earliest to the latest."""
    ahead, behind, roll = [], [], 0
    while roll + 1 < ladder.rolls():
        first, last = greater_within(ladder, roll, begin, end)
        if first >= last:
            break
        ahead.append((roll, begin, ladder.lesser(roll + 1, first)[0]))
        behind.append((roll, ladder.lesser(roll + 1, last)[0], end))
        roll, begin, end = roll + 1, first, last
    return ahead + [(roll, begin, end)] + behind[::-1]


def greater_within(ladder, roll, begin, end):
    """The first bar of the next greater roll that lies within the bars from begin up to end, and the first behind it
    that doesn't; where none lies within, the latter isn't behind the former."""
    first = ladder.greater(roll, begin)
    if ladder.lesser(roll + 1, first)[0] < begin:
        first += 1
    return (first, ladder.greater(roll, end))


def bar_of_cover(ladder, entries, pieces):
    """The bar of the entries that lie in the pieces."""
    bar = empty()
    for piece in pieces:
        first, behind = piece_stretch(ladder, piece)
        bar = joined(bar, between(entries, first, behind))
    return bar


def piece_stretch(ladder, piece):
    if piece[0] == "bar":
        return ladder.stretch(piece[1], piece[2])
    return (piece[1], piece[2])

"""Followers: who is told of a roll's bars what isn't known yet."""

from peakroll.changes import unlike_bars
from peakroll.checks import need_number, need_roll
from peakroll.errors import NoNumber
from peakroll.rolls import bars_of


class Follower:
    """A follower of a roll's bars from a number up to a later one. Known are just the bars with entries, so that a span
    may be of any length."""

    def __init__(self, ladder, roll, begin, end):
        need_roll(roll, 0, ladder.rolls() - 1)
        need_number(begin)
        need_number(end)
        if end <= begin:
            raise NoNumber("a span goes from a number up to a later one")
        self.ladder = ladder
        self.roll = roll
        self.first_number = begin
        self.number_behind = end
        self.known = {}

    def news(self, entries):
        """Tuples (number, bar as it was known, bar as it is), rising; then these are known as they are."""
        bars = bars_of(self.ladder, self.roll, entries)
        found = {number: bar for number, bar in bars if self.first_number <= number < self.number_behind}
        told = unlike_bars(self.known, found)
        self.known = found
        return told

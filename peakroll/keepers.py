"""Keepers: entries that are there, and the bars of those that were forgotten."""

from peakroll.bars import empty, in_order, joined
from peakroll.checks import need_roll
from peakroll.covers import cover
from peakroll.errors import Gone, NoFloor, Sealed
from peakroll.rolls import bars_of, between

ENTRIES_LEVEL = -1


class Keeper:
    """A keeper. Of forgotten entries it has their keys, and their bars by pairs (roll, number), as long as the bars'
    own roll isn't forgotten there."""

    def __init__(self, ladder):
        self.ladder = ladder
        self.floors = {}
        self.there = []
        self.kept_bars = {}
        self.sealed_keys = {}

    def give(self, entries):
        if any([self.is_gone(ENTRIES_LEVEL, entry[0]) for entry in entries]):
            raise Gone("an entry lies ahead of the entries' floor")
        if any([entry[1] in self.sealed_keys for entry in entries]):
            raise Sealed("a key is that of a forgotten entry")
        self.there = in_order(entries)

    def forget(self, level, moment):
        self.need_level(level)
        # bar_at refuses what is no moment.
        number = self.ladder.bar_at(level + 1, moment)
        place = self.ladder.stretch(level + 1, number)[0]
        if not self.may_rise(level, place):
            raise NoFloor("a floor is not lowered, nor raised above that of the next lesser level")
        self.floors[level] = place
        self.forget_entries()
        self.forget_bars()

    def need_level(self, level):
        # The last roll is never forgotten, so it has no floor.
        need_roll(level, ENTRIES_LEVEL, self.ladder.rolls() - 2)

    def may_rise(self, level, place):
        if self.is_gone(level, place):
            return False
        if level == ENTRIES_LEVEL:
            return True
        lesser = self.floors.get(level - 1)
        return lesser is not None and place <= lesser

    def is_gone(self, level, moment):
        """Whether the moment lies ahead of the level's floor."""
        place = self.floors.get(level)
        return place is not None and moment < place

    def forget_entries(self):
        gone = [entry for entry in self.there if self.is_gone(ENTRIES_LEVEL, entry[0])]
        self.there = [entry for entry in self.there if not self.is_gone(ENTRIES_LEVEL, entry[0])]
        for entry in gone:
            self.sealed_keys[entry[1]] = True
        for roll in range(self.ladder.rolls()):
            for number, bar in bars_of(self.ladder, roll, gone):
                self.kept_bars[(roll, number)] = joined(self.kept_bar(roll, number), bar)

    def forget_bars(self):
        pairs = [pair for pair in self.kept_bars if not self.is_bar_gone(pair[0], pair[1])]
        self.kept_bars = {pair: self.kept_bars[pair] for pair in pairs}

    def kept_bar(self, roll, number):
        return self.kept_bars.get((roll, number), empty())

    def is_bar_gone(self, roll, number):
        return self.is_gone(roll, self.ladder.stretch(roll, number)[0])

    def floor(self, level):
        self.need_level(level)
        return self.floors.get(level)

    def entries(self):
        return list(self.there)

    def sealed(self):
        return sorted(self.sealed_keys)

    def bar(self, roll, number):
        """The bar of all entries in the stretch: the forgotten ones, and those that are there."""
        first, behind = self.ladder.stretch(roll, number)
        if self.is_bar_gone(roll, number):
            raise Gone("the bar's roll is forgotten there")
        return joined(self.kept_bar(roll, number), between(self.there, first, behind))

    def bar_between(self, one, other):
        bar = empty()
        for piece in cover(self.ladder, one, other):
            bar = joined(bar, self.bar_of_piece(piece))
        return bar

    def bar_of_piece(self, piece):
        if piece[0] == "bar":
            return self.bar(piece[1], piece[2])
        if self.is_gone(ENTRIES_LEVEL, piece[1]):
            raise Gone("the entries are forgotten there")
        return between(self.there, piece[1], piece[2])

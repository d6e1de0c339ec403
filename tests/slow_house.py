"""A keeper and a house kept slowly: nothing is thrown away, and what is told is reckoned anew of all entries each time.
A refusal is told by its class, in the place of what would have been told."""

import copy
import re

from peakroll.covers import cover
from peakroll.errors import (Gone, Held, NoDeed, NoFloor, NoLock, NoNumber, NoRoll, NoRow, NoSources, NotOpen, NoTell,
                             PeakError, Sealed)
from tests.helps import MOST_NUMBER, NO_BAR, slow_bar, slow_order

NAME = "[a-z]{1,6}"
KEY = "[a-z0-9]{1,8}"
WIDE = "(?:0|-?[1-9][0-9]{0,29})"
WHOLE = "(?:0|-?[1-9][0-9]{0,39})"
ROW = re.compile(f"put {NAME} {KEY} {WIDE} {WIDE}|take {NAME} {KEY}|rank(?: {NAME})+|(?:shut|open) {WHOLE} {WHOLE}"
                 f"|forget {WHOLE} {WIDE}|follow {NAME} {WHOLE} {WHOLE} {WHOLE}")


def tell(call, *things):
    """What the call tells, or the class of its refusal."""
    try:
        return call(*things)
    except PeakError as error:
        return type(error)


class SlowKeeper:

    def __init__(self, ladder):
        self.ladder, self.there, self.gone = ladder, [], []
        self.floors = {level: None for level in range(-1, ladder.rolls() - 1)}

    def is_ahead(self, level, moment):
        return self.floors.get(level) is not None and moment < self.floors[level]

    def give(self, entries):
        if any(self.is_ahead(-1, entry[0]) for entry in entries):
            return Gone
        if {entry[1] for entry in entries} & {entry[1] for entry in self.gone}:
            return Sealed
        self.there = [tuple(entry) for entry in entries]

    def forget(self, level, moment):
        if level not in self.floors:
            return NoRoll
        place = self.ladder.stretch(level + 1, self.ladder.bar_at(level + 1, moment))[0]
        if self.is_ahead(level, place):
            return NoFloor
        if level > -1 and (self.floors[level - 1] is None or place > self.floors[level - 1]):
            return NoFloor
        self.floors[level] = place
        if level == -1:
            self.gone += [entry for entry in self.there if entry[0] < place]
            self.there = [entry for entry in self.there if entry[0] >= place]

    def entries(self):
        return slow_order(self.there)

    def sealed(self):
        return sorted(entry[1] for entry in self.gone)

    def within(self, first, behind):
        return slow_bar([entry for entry in self.there + self.gone if first <= entry[0] < behind])

    def bar(self, roll, number):
        if roll not in range(self.ladder.rolls()):
            return NoRoll
        if abs(number) > MOST_NUMBER:
            return NoNumber
        first, behind = self.ladder.stretch(roll, number)
        return Gone if self.is_ahead(roll, first) else self.within(first, behind)

    def bar_between(self, one, other):
        pieces = tell(cover, self.ladder, one, other)
        if not isinstance(pieces, list):
            return pieces
        for kind, left, right in pieces:
            first = self.ladder.stretch(left, right)[0] if kind == "bar" else left
            if self.is_ahead(left if kind == "bar" else -1, first):
                return Gone
        return self.within(one, other)


class SlowHouse:

    def __init__(self, ladder, sources):
        self.ladder, self.keeper, self.past = ladder, SlowKeeper(ladder), []
        self.order, self.tells, self.shut, self.names = list(sources), {}, set(), {}
        # What each follower knows, by its own number: it stays when deeds are taken back.
        self.known, self.spans = {}, {}

    def counted(self):
        """Of each key what the best source tells."""
        entries = []
        for key in sorted({key for source, key in self.tells}):
            best = min((source for source, other in self.tells if other == key), key=self.order.index)
            entries.append((self.tells[best, key][0], key, self.tells[best, key][1]))
        return entries

    def do(self, row):
        if not isinstance(row, str) or not ROW.fullmatch(row):
            return NoRow
        word, *words = [int(word) if re.fullmatch(WHOLE, word) and at != self.key_at(row) else word
                        for at, word in enumerate(row.split(" "))]
        if word == "forget":
            refusal = self.keeper.forget(*words)
            self.past = self.past if refusal else []
            return refusal
        before = copy.deepcopy((self.order, self.tells, self.shut, self.names))
        refusal = getattr(self, f"do_{word}")(*words)
        if refusal:
            self.order, self.tells, self.shut, self.names = before
        else:
            self.past.append(before)
        self.give_again()
        return refusal

    def key_at(self, row):
        """A key of figures alone is no number."""
        return 2 if row.startswith(("put", "take")) else None

    def give_again(self):
        self.keeper.give([entry for entry in self.counted() if entry[1] not in self.keeper.sealed()])

    def do_put(self, source, key, moment, value):
        if source not in self.order:
            return NoSources
        before = self.counted()
        self.tells[source, key] = (moment, value)
        if key in self.keeper.sealed():
            return Sealed
        if not self.ladder.is_open(moment):
            return NotOpen
        return self.refusal(before)

    def do_take(self, source, key):
        if source not in self.order:
            return NoSources
        if (source, key) not in self.tells:
            return NoTell
        before = self.counted()
        del self.tells[source, key]
        return Sealed if key in self.keeper.sealed() else self.refusal(before)

    def do_rank(self, *order):
        if sorted(order) != sorted(self.order):
            return NoSources
        before = self.counted()
        self.order = list(order)
        return self.refusal(before)

    def refusal(self, before):
        now = self.counted()
        if [row for row in before if row not in now and self.keeper.is_ahead(-1, row[0])]:
            return Gone
        if [row for row in now if row not in before and self.keeper.is_ahead(-1, row[0])]:
            return Gone
        for roll, number in self.shut:
            first, behind = self.ladder.stretch(roll, number)
            bars = [slow_bar([row for row in rows if first <= row[0] < behind]) for rows in (before, now)]
            if bars[0] != bars[1]:
                return Held

    def do_shut(self, roll, number):
        if roll not in range(self.ladder.rolls()):
            return NoRoll
        if (roll, number) in self.shut:
            return NoLock
        self.shut.add((roll, number))

    def do_open(self, roll, number):
        if roll not in range(self.ladder.rolls()):
            return NoRoll
        if (roll, number) not in self.shut:
            return NoLock
        self.shut.remove((roll, number))

    def do_follow(self, name, roll, begin, end):
        if roll not in range(self.ladder.rolls()):
            return NoRoll
        if end <= begin:
            return NoNumber
        follower = len(self.spans)
        self.names[name], self.spans[follower], self.known[follower] = follower, (roll, begin, end), {}

    def back(self):
        if not self.past:
            return NoDeed
        self.order, self.tells, self.shut, self.names = self.past.pop()
        self.give_again()

    def news(self, name):
        if name not in self.names:
            return NoRow
        roll, begin, end = self.spans[self.names[name]]
        known, told = self.known[self.names[name]], []
        entries = self.counted()
        numbers = {self.ladder.bar_at(roll, entry[0]) for entry in entries} | set(known)
        for number in sorted(number for number in numbers if begin <= number < end):
            first, behind = self.ladder.stretch(roll, number)
            bar = slow_bar([entry for entry in entries if first <= entry[0] < behind])
            if bar != known.get(number, NO_BAR):
                told.append((number, known.get(number, NO_BAR), bar))
                known[number] = bar
        return told

    def bar(self, roll, number):
        return self.keeper.bar(roll, number)

    def bar_between(self, one, other):
        return self.keeper.bar_between(one, other)

    def entries(self):
        return self.keeper.entries()

    def locks(self):
        return " ".join(f"{roll}/{number}" for roll, number in sorted(self.shut))

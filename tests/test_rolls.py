"""Promises 13 and 15, and 2, 3 and 4 as they bear on them: the bars of a roll, bars rolled, the bar between moments."""

import random
import unittest

from peakroll.bars import bar_of, joined
from peakroll.errors import NoRoll
from peakroll.ladders import Ladder
from peakroll.rolls import bars_of, between, rolled
from tests.helps import (FAR, MOST_WIDE, NO_BAR, NO_WHOLES, NO_WIDES, SMALL, Case, far_entries, listed, slow_bar,
                         slow_rolls, some_entries, tupled)

LADDERS = SMALL + FAR

# Bars of roll 0 begin at 0, 4, 10, 14, 20 ..; bars of roll 1 with those of the numbers -1, 1, 4, 6 ..
BY_HAND = Ladder(0, [3, -1, 6], [(-1, [2, 3]), (0, [2])])
ROWS = [(9, "d", 4), (-1, "a", 7), (0, "b", -5), (3, "c", 1), (4, "b2", 0), (13, "e", 2), (39, "f", 6)]


def some_lists(seed):
    return [[], some_entries(seed, 1, -9, 9), some_entries(seed, 5, 0, 0), some_entries(seed, 20, -20, 20),
            some_entries(seed, 60, -60, 60), some_entries(seed, 60, -MOST_WIDE, MOST_WIDE), far_entries()]


def slow_bars_of(ladder, roll, entries):
    """Each bar near its entries, asked for what lies in its stretch."""
    numbers = sorted({ladder.bar_at(roll, entry[0]) + step for entry in entries for step in (-1, 0, 1)})
    found = []
    for number in numbers:
        first, behind = ladder.stretch(roll, number)
        within = [entry for entry in entries if first <= entry[0] < behind]
        if within:
            found.append((number, slow_bar(within)))
    return found


class OfARoll(Case):

    def test_by_hand(self):
        self.same(bars_of(BY_HAND, 0, ROWS), [
            (-1, (1, 7, 7, 7, (-1, "a", 7), (-1, "a", 7))),
            (0, (2, -4, -5, 1, (0, "b", -5), (3, "c", 1))),
            (1, (2, 4, 0, 4, (4, "b2", 0), (9, "d", 4))),
            (2, (1, 2, 2, 2, (13, "e", 2), (13, "e", 2))),
            (7, (1, 6, 6, 6, (39, "f", 6), (39, "f", 6)))])
        self.same(bars_of(BY_HAND, 1, ROWS), [
            (0, (3, 3, -5, 7, (-1, "a", 7), (3, "c", 1))),
            (1, (3, 6, 0, 4, (4, "b2", 0), (13, "e", 2))),
            (3, (1, 6, 6, 6, (39, "f", 6), (39, "f", 6)))])
        self.same(bars_of(BY_HAND, 2, ROWS), [
            (0, (6, 9, -5, 7, (-1, "a", 7), (13, "e", 2))),
            (1, (1, 6, 6, 6, (39, "f", 6), (39, "f", 6)))])

    def test_of_none(self):
        for begin, parts, rows in LADDERS:
            ladder = Ladder(begin, parts, rows)
            for roll in range(ladder.rolls()):
                self.same(bars_of(ladder, roll, []), [])
                self.same(bars_of(ladder, roll, ()), [])

    def test_entries_in_shut_parts_count(self):
        ladder = Ladder(0, [1, -9], [])
        self.assertFalse(ladder.is_open(9))
        self.same(bars_of(ladder, 0, [(9, "a", 2), (10, "b", 3)]),
                  [(0, (1, 2, 2, 2, (9, "a", 2), (9, "a", 2))), (1, (1, 3, 3, 3, (10, "b", 3), (10, "b", 3)))])

    def test_beside_ladders_laid_out_bar_by_bar(self):
        for seed, (begin, parts, rows) in enumerate(SMALL):
            ladder = Ladder(begin, parts, rows)
            entries = some_entries(seed, 60, begin - 30, begin + 30)
            for roll, stretches in enumerate(slow_rolls(begin, parts, rows, 60)):
                wanted = []
                for number in sorted(stretches):
                    first, behind = stretches[number]
                    within = [entry for entry in entries if first <= entry[0] < behind]
                    if within:
                        wanted.append((number, slow_bar(within)))
                self.assertEqual(sum(bar[0] for number, bar in wanted), 60)
                self.same(bars_of(ladder, roll, entries), wanted)

    def test_near_and_far(self):
        for seed, (begin, parts, rows) in enumerate(LADDERS):
            ladder = Ladder(begin, parts, rows)
            for entries in some_lists(seed):
                for roll in range(ladder.rolls()):
                    self.same(bars_of(ladder, roll, entries), slow_bars_of(ladder, roll, entries))

    def test_in_any_order_lists_and_tuples(self):
        chance = random.Random(41)
        for begin, parts, rows in LADDERS:
            ladder = Ladder(begin, parts, rows)
            entries = some_entries(42, 30, -20, 20)
            for roll in range(ladder.rolls()):
                wanted = bars_of(ladder, roll, entries)
                for handed in [entries[::-1], chance.sample(entries, 30), listed(entries), tupled(entries),
                               tuple(listed(entries))]:
                    self.same(bars_of(ladder, roll, handed), wanted)

    def test_no_roll(self):
        for begin, parts, rows in LADDERS:
            ladder = Ladder(begin, parts, rows)
            for roll in NO_WHOLES + NO_WIDES + [-1, -2, len(rows) + 1, len(rows) + 2, 5]:
                for entries in [[], ROWS]:
                    self.refused(NoRoll, bars_of, ladder, roll, entries)
            self.assertEqual(len(bars_of(ladder, len(rows), ROWS[:1])), 1)


class Rolled(Case):

    def test_by_hand(self):
        lesser = [(-1, (1, 7, 7, 7, (-1, "a", 7), (-1, "a", 7))), (0, (2, -4, -5, 1, (0, "b", -5), (3, "c", 1))),
                  (7, (1, 6, 6, 6, (39, "f", 6), (39, "f", 6)))]
        greater = [(0, (3, 3, -5, 7, (-1, "a", 7), (3, "c", 1))), (3, (1, 6, 6, 6, (39, "f", 6), (39, "f", 6)))]
        self.same(rolled(BY_HAND, 0, lesser), greater)
        self.same(rolled(BY_HAND, 1, greater), [(0, greater[0][1]), (1, greater[1][1])])

    def test_of_none(self):
        for roll in [0, 1]:
            self.same(rolled(BY_HAND, roll, []), [])
            self.same(rolled(BY_HAND, roll, ()), [])

    def test_rolled_bars_are_those_of_the_entries(self):
        for seed, (begin, parts, rows) in enumerate(LADDERS):
            ladder = Ladder(begin, parts, rows)
            for entries in some_lists(seed):
                bars = bars_of(ladder, 0, entries)
                for roll in range(len(rows)):
                    bars = rolled(ladder, roll, bars)
                    self.same(bars, bars_of(ladder, roll + 1, entries))
                    self.same(bars, slow_bars_of(ladder, roll + 1, entries))

    def test_lists_for_tuples_and_tuples_for_lists(self):
        for begin, parts, rows in LADDERS:
            ladder = Ladder(begin, parts, rows)
            entries = some_entries(43, 30, -20, 20)
            for roll in range(len(rows)):
                bars = bars_of(ladder, roll, entries)
                wanted = bars_of(ladder, roll + 1, entries)
                for handed in [listed(bars), tupled(bars), tuple(listed(bars)), [list(pair) for pair in bars]]:
                    self.same(rolled(ladder, roll, handed), wanted)

    def test_no_roll_of_the_last_one_too(self):
        for begin, parts, rows in LADDERS:
            ladder = Ladder(begin, parts, rows)
            last = len(rows)
            for roll in NO_WHOLES + NO_WIDES + [-1, -2, last, last + 1, last + 2, 5]:
                for bars in [[], bars_of(ladder, last, ROWS)]:
                    self.refused(NoRoll, rolled, ladder, roll, bars)
            if last > 0:
                self.same(rolled(ladder, last - 1, []), [])


class Between(Case):

    def test_by_hand(self):
        self.same(between(ROWS, 0, 9), (3, -4, -5, 1, (0, "b", -5), (4, "b2", 0)))
        self.same(between(ROWS, 0, 10), (4, 0, -5, 4, (0, "b", -5), (9, "d", 4)))
        self.same(between(ROWS, 1, 10), (3, 5, 0, 4, (3, "c", 1), (9, "d", 4)))
        self.same(between(ROWS, 9, 10), (1, 4, 4, 4, (9, "d", 4), (9, "d", 4)))
        self.same(between(ROWS, -MOST_WIDE, MOST_WIDE), slow_bar(ROWS))

    def test_of_none(self):
        self.same(between([], -5, 5), NO_BAR)
        self.same(between((), -MOST_WIDE, MOST_WIDE), NO_BAR)
        self.same(between(ROWS, 5, 9), NO_BAR)
        self.same(between(ROWS, 40, 41), NO_BAR)

    def test_where_the_other_is_not_later(self):
        for one, other in [(0, 0), (9, 9), (9, 0), (10, 9), (9, 8), (MOST_WIDE, -MOST_WIDE), (MOST_WIDE, MOST_WIDE)]:
            self.same(between(ROWS + [(MOST_WIDE, "x", 1), (-MOST_WIDE, "y", 2)], one, other), NO_BAR)

    def test_thirty_figures_either_way(self):
        entries = far_entries()
        ends = [-MOST_WIDE, 1 - MOST_WIDE, -10 ** 29, 1 - 10 ** 29, -1, 0, 1, 10 ** 29, 10 ** 29 + 1, MOST_WIDE - 1,
                MOST_WIDE]
        for one in ends:
            for other in ends:
                wanted = slow_bar([entry for entry in entries if entry[0] >= one and entry[0] < other])
                self.same(between(entries, one, other), wanted)

    def test_each_two_moments(self):
        entries = some_entries(44, 40, -9, 9)
        for one in range(-11, 12):
            for other in range(-11, 12):
                wanted = slow_bar([entry for entry in entries if entry[0] in range(one, other)])
                self.same(between(entries, one, other), wanted)
                self.same(between(entries[::-1], one, other), wanted)
                self.same(between(listed(entries), one, other), wanted)
                self.same(between(tupled(entries), one, other), wanted)

    def test_a_stretch_is_its_bar_and_times_are_joined(self):
        for seed, (begin, parts, rows) in enumerate(SMALL):
            ladder = Ladder(begin, parts, rows)
            entries = some_entries(seed, 50, begin - 30, begin + 30)
            for roll in range(ladder.rolls()):
                for number, bar in bars_of(ladder, roll, entries):
                    first, behind = ladder.stretch(roll, number)
                    self.same(between(entries, first, behind), bar)
                    for middle in [first, (first + behind) // 2, behind]:
                        self.same(joined(between(entries, middle, behind), between(entries, first, middle)), bar)


class Own(Case):

    def test_what_is_handed_in_stays_as_it_was(self):
        rows = listed(ROWS)
        bars = listed(bars_of(BY_HAND, 0, rows))
        before = listed(bars)
        bars_of(BY_HAND, 1, rows), rolled(BY_HAND, 0, bars), between(rows, 0, 9)
        self.same(rows, listed(ROWS))
        self.same(bars, before)
        self.refused(NoRoll, bars_of, BY_HAND, 3, rows)
        self.refused(NoRoll, rolled, BY_HAND, 2, bars)
        self.same(rows, listed(ROWS))
        self.same(bars, before)

    def test_changed_behind_the_call(self):
        rows = listed(ROWS)
        told, bar = bars_of(BY_HAND, 0, rows), between(rows, 0, 9)
        handed = listed(told)
        greater = rolled(BY_HAND, 0, handed)
        for row in rows:
            row[0] = 99
            row[2] = 99
        for pair in handed:
            pair[0] = 99
            pair[1][4][0] = 99
            pair[1][5].clear()
            pair[1].clear()
        rows.clear()
        handed.clear()
        self.same(told, bars_of(BY_HAND, 0, ROWS))
        self.same(bar, between(ROWS, 0, 9))
        self.same(greater, bars_of(BY_HAND, 1, ROWS))

    def test_what_is_told_is_its_askers_own(self):
        told = bars_of(BY_HAND, 0, ROWS)
        before = list(told)
        greater = rolled(BY_HAND, 0, told)
        told.pop()
        told[0] = (99, bar_of([]))
        self.same(bars_of(BY_HAND, 0, ROWS), before)
        again = rolled(BY_HAND, 0, before)
        greater.clear()
        self.same(rolled(BY_HAND, 0, before), again)

    def test_asked_again_the_same_is_told(self):
        for _ in range(2):
            self.same(bars_of(BY_HAND, 2, ROWS), bars_of(BY_HAND, 2, ROWS))
            self.same(rolled(BY_HAND, 1, bars_of(BY_HAND, 1, ROWS)), bars_of(BY_HAND, 2, ROWS))
            self.same(between(ROWS, 0, 9), between(ROWS, 0, 9))


if __name__ == "__main__":
    unittest.main()

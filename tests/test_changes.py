"""Promise 16, and 2, 4 and 6 as they bear on it: what changed of two lists of entries."""

import random
import unittest

from peakroll.bars import empty
from peakroll.changes import changes
from peakroll.ladders import Ladder
from peakroll.rolls import bars_of
from tests.helps import (FAR, MOST_WIDE, NO_BAR, SMALL, Case, altered, far_entries, listed, slow_bar, slow_rolls,
                         some_entries, tupled)

# Bars of roll 0 begin at 0, 4, 10, 14, 20 ..; bars of roll 1 with those of the numbers -1, 1, 4, 6 ..
BY_HAND = Ladder(0, [3, -1, 6], [(-1, [2, 3]), (0, [2])])
ROWS = [(1, "a", 5), (2, "b", 7), (12, "c", -1)]


def one_bar(moment, key, value):
    return (1, value, value, value, (moment, key, value), (moment, key, value))


def slow_changes(ladder, one, other):
    """Each bar of each roll that has an entry of either list, asked for what lies in its stretch."""
    rows = []
    for roll in range(ladder.rolls()):
        for number in sorted({ladder.bar_at(roll, entry[0]) for entry in list(one) + list(other)}):
            first, behind = ladder.stretch(roll, number)
            bars = [slow_bar([entry for entry in entries if first <= entry[0] < behind]) for entries in (one, other)]
            if bars[0] != bars[1]:
                rows.append((roll, number, bars[0], bars[1]))
    return rows


class Changes(Case):

    def test_an_entry_put_in(self):
        other = ROWS + [(3, "d", 9)]
        self.same(changes(BY_HAND, ROWS, other), [
            (0, 0, (2, 12, 5, 7, (1, "a", 5), (2, "b", 7)), (3, 21, 5, 9, (1, "a", 5), (3, "d", 9))),
            (1, 0, (2, 12, 5, 7, (1, "a", 5), (2, "b", 7)), (3, 21, 5, 9, (1, "a", 5), (3, "d", 9))),
            (2, 0, (3, 11, -1, 7, (1, "a", 5), (12, "c", -1)), (4, 20, -1, 9, (1, "a", 5), (12, "c", -1)))])

    def test_an_entry_left_out(self):
        self.same(changes(BY_HAND, ROWS, ROWS[:2]), [
            (0, 2, one_bar(12, "c", -1), NO_BAR),
            (1, 1, one_bar(12, "c", -1), NO_BAR),
            (2, 0, (3, 11, -1, 7, (1, "a", 5), (12, "c", -1)), (2, 12, 5, 7, (1, "a", 5), (2, "b", 7)))])

    def test_an_entry_moved(self):
        self.same(changes(BY_HAND, [(1, "a", 5)], [(4, "a", 5)]), [
            (0, 0, one_bar(1, "a", 5), NO_BAR), (0, 1, NO_BAR, one_bar(4, "a", 5)),
            (1, 0, one_bar(1, "a", 5), NO_BAR), (1, 1, NO_BAR, one_bar(4, "a", 5)),
            (2, 0, one_bar(1, "a", 5), one_bar(4, "a", 5))])

    def test_moved_within_its_bar(self):
        three = [(1, "a", 5), (2, "b", 7), (3, "c", 4)]
        # Neither the first nor the last of its bar, so no bar is another one.
        self.same(changes(Ladder(0, [10], []), three + [(0, "x", 0), (9, "y", 0)],
                          [(4, "a", 5)] + three[1:] + [(0, "x", 0), (9, "y", 0)]), [])
        self.same(changes(Ladder(0, [10], []), [(1, "a", 5)], [(2, "a", 5)]),
                  [(0, 0, one_bar(1, "a", 5), one_bar(2, "a", 5))])

    def test_another_value(self):
        self.same(changes(BY_HAND, [(1, "a", 5)], [(1, "a", 6)]),
                  [(roll, 0, one_bar(1, "a", 5), one_bar(1, "a", 6)) for roll in range(3)])

    def test_another_key(self):
        self.same(changes(BY_HAND, [(1, "a", 5)], [(1, "b", 5)]),
                  [(roll, 0, one_bar(1, "a", 5), one_bar(1, "b", 5)) for roll in range(3)])

    def test_by_roll_then_by_number(self):
        rows = [(30, "a", 1), (-30, "b", 2), (0, "c", 3)]
        told = changes(BY_HAND, [], rows)
        places = [row[:2] for row in told]
        self.assertEqual(places, sorted(places))
        self.assertEqual(places, [(roll, number) for roll in range(3) for number, bar in bars_of(BY_HAND, roll, rows)])

    def test_none(self):
        for begin, parts, rows in SMALL + FAR:
            ladder = Ladder(begin, parts, rows)
            self.same(changes(ladder, [], []), [])
            self.same(changes(ladder, (), []), [])
            for entries in [ROWS, some_entries(71, 30, -20, 20), far_entries()]:
                self.same(changes(ladder, entries, entries[::-1]), [])

    def test_of_all_and_of_none(self):
        for begin, parts, rows in SMALL + FAR:
            ladder = Ladder(begin, parts, rows)
            for entries in [ROWS, some_entries(72, 60, -60, 60), far_entries()]:
                wanted = [(roll, number, bar) for roll in range(ladder.rolls())
                          for number, bar in bars_of(ladder, roll, entries)]
                self.same(changes(ladder, [], entries), [(roll, at, NO_BAR, bar) for roll, at, bar in wanted])
                self.same(changes(ladder, entries, []), [(roll, at, bar, NO_BAR) for roll, at, bar in wanted])

    def test_altered_lists_beside_the_slow_way(self):
        for seed, (begin, parts, rows) in enumerate(SMALL + FAR):
            chance, ladder = random.Random(seed), Ladder(begin, parts, rows)
            for low, high in [(-9, 9), (-60, 60), (begin, begin + 3), (-MOST_WIDE, MOST_WIDE)]:
                low, high = max(low, -MOST_WIDE), min(high, MOST_WIDE)
                for many in [1, 5, 40]:
                    one = some_entries(seed, many, low, high)
                    other = altered(chance, one, low, high)
                    self.same(changes(ladder, one, other), slow_changes(ladder, one, other))
                    self.same(changes(ladder, other, one), slow_changes(ladder, other, one))

    def test_beside_ladders_laid_out_bar_by_bar(self):
        for seed, (begin, parts, rows) in enumerate(SMALL):
            chance, ladder = random.Random(seed), Ladder(begin, parts, rows)
            one = some_entries(seed, 20, begin - 30, begin + 30)
            other = altered(chance, one, begin - 30, begin + 30)
            wanted = []
            for roll, stretches in enumerate(slow_rolls(begin, parts, rows, 60)):
                for number in sorted(stretches):
                    first, behind = stretches[number]
                    bars = [slow_bar([row for row in rows if first <= row[0] < behind]) for rows in (one, other)]
                    wanted += [(roll, number, bars[0], bars[1])] if bars[0] != bars[1] else []
            self.assertGreater(len(wanted), 3)
            self.same(changes(ladder, one, other), wanted)

    def test_just_the_bars_that_hold_it(self):
        """One entry more changes one bar of each roll, and only those."""
        for seed, (begin, parts, rows) in enumerate(SMALL + FAR):
            ladder = Ladder(begin, parts, rows)
            entries = some_entries(seed, 30, -40, 40)
            for moment in [-MOST_WIDE, -7, 0, 3, MOST_WIDE]:
                told = changes(ladder, entries, entries + [(moment, "onemore9", 1)])
                self.assertEqual([row[:2] for row in told],
                                 [(roll, ladder.bar_at(roll, moment)) for roll in range(ladder.rolls())])

    def test_lists_for_tuples_and_tuples_for_lists(self):
        other = [(3, "d", 9), (2, "b", 7), (12, "c", -2)]
        wanted = changes(BY_HAND, ROWS, other)
        for change in [listed, tupled, lambda rows: tuple(listed(rows)), lambda rows: list(tupled(rows))]:
            self.same(changes(BY_HAND, change(ROWS), change(other)), wanted)
            self.same(changes(BY_HAND, ROWS, change(other)), wanted)
            self.same(changes(BY_HAND, change(ROWS), ROWS), [])


class Own(Case):

    def test_what_is_handed_in_stays_and_may_change_behind(self):
        one, other = listed(ROWS), listed(ROWS[:2])
        told = changes(BY_HAND, one, other)
        self.same((one, other), (listed(ROWS), listed(ROWS[:2])))
        for row in one + other:
            row[0] = 99
            row.clear()
        one.clear()
        other.clear()
        self.same(told, changes(BY_HAND, ROWS, ROWS[:2]))

    def test_what_is_told_is_its_askers_own(self):
        told = changes(BY_HAND, ROWS, [])
        before = list(told)
        told.reverse()
        told.clear()
        self.same(changes(BY_HAND, ROWS, []), before)
        self.same(changes(BY_HAND, ROWS, []), before)
        self.same(empty(), NO_BAR)


if __name__ == "__main__":
    unittest.main()

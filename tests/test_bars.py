"""Promises 8 and 9, and 2 and 4 as they bear on them: entries in order, the bar of entries, two bars joined."""

import itertools
import random
import unittest

from peakroll.bars import bar_of, empty, in_order, joined
from tests.helps import (MOST_WIDE, NO_BAR, Case, far_entries, listed, slow_bar, slow_order, some_entries, tupled)

# Two entries of one moment, a value below 0, keys of one and of eight signs.
FIVE = [(7, "b", 3), (-2, "z9", -4), (7, "a", 10), (0, "abcdefgh", 0), (7, "01234567", 3)]

# Keys as texts are ordered: figures ahead of letters, a beginning ahead of what it begins.
RISING_KEYS = ["0", "00", "01", "1", "10", "2", "9", "99999999", "a", "a0", "a1", "aa", "aaaaaaaa", "ab", "b", "b0",
               "z", "z9", "zz", "zzzzzzzz"]


def many_lists():
    lists = [some_entries(seed, many, low, high) for seed, many, low, high in [
        (1, 1, 0, 0), (2, 2, 0, 0), (3, 2, -5, 5), (4, 3, 0, 1), (5, 7, -3, 3), (6, 20, -4, 4), (7, 59, -50, 50),
        (8, 60, 0, 0), (9, 60, -3, 3), (10, 60, -10 ** 29, 10 ** 29)]]
    return lists + [[], FIVE, far_entries(), [(0, key, 1) for key in RISING_KEYS]]


class Ordered(Case):

    def test_by_hand(self):
        self.same(in_order(FIVE),
                  [(-2, "z9", -4), (0, "abcdefgh", 0), (7, "01234567", 3), (7, "a", 10), (7, "b", 3)])

    def test_none_and_one(self):
        self.same(in_order([]), [])
        self.same(in_order(()), [])
        self.same(in_order([(5, "a", 6)]), [(5, "a", 6)])

    def test_moments_are_ordered_as_numbers(self):
        moments = [-MOST_WIDE, -10, -9, -1, 0, 1, 2, 9, 10, 11, 100, MOST_WIDE]
        wanted = [(moment, "k", 0) for moment in moments]
        chance = random.Random(11)
        for _ in range(20):
            self.same(in_order(chance.sample(wanted, len(wanted))), wanted)

    def test_keys_are_ordered_as_texts(self):
        wanted = [(3, key, -at) for at, key in enumerate(RISING_KEYS)]
        chance = random.Random(12)
        for _ in range(20):
            self.same(in_order(chance.sample(wanted, len(wanted))), wanted)

    def test_moments_go_ahead_of_keys_and_keys_of_values(self):
        self.same(in_order([(2, "a", 0), (1, "z", 9), (1, "b", 5), (1, "c", -5)]),
                  [(1, "b", 5), (1, "c", -5), (1, "z", 9), (2, "a", 0)])

    def test_the_same_key_as_they_stood(self):
        rows = [(1, "a", 5), (0, "a", 7), (1, "a", 3), (1, "a", 9), (0, "b", 1), (1, "a", 3), (0, "a", -7)]
        self.same(in_order(rows), [(0, "a", 7), (0, "a", -7), (0, "b", 1), (1, "a", 5), (1, "a", 3), (1, "a", 9),
                                   (1, "a", 3)])
        self.same(in_order(rows[::-1]), [(0, "a", -7), (0, "a", 7), (0, "b", 1), (1, "a", 3), (1, "a", 9),
                                         (1, "a", 3), (1, "a", 5)])

    def test_beside_the_slow_way(self):
        for entries in many_lists():
            self.same(in_order(entries), slow_order(entries))
            self.same(in_order(entries[::-1]), slow_order(entries))

    def test_lists_for_tuples_and_tuples_for_lists(self):
        for entries in many_lists():
            for handed in [listed(entries), tupled(entries), tuple(listed(entries)), list(tupled(entries))]:
                self.same(in_order(handed), slow_order(entries))


class Made(Case):

    def test_of_none(self):
        self.same(empty(), NO_BAR)
        self.same(bar_of([]), NO_BAR)
        self.same(bar_of(()), NO_BAR)

    def test_of_one(self):
        for entry in [(0, "a", 0), (-5, "abcdefgh", -6), (MOST_WIDE, "0", -MOST_WIDE), (-MOST_WIDE, "9", MOST_WIDE)]:
            self.same(bar_of([entry]), (1, entry[2], entry[2], entry[2], entry, entry))

    def test_by_hand(self):
        self.same(bar_of(FIVE), (5, 12, -4, 10, (-2, "z9", -4), (7, "b", 3)))
        self.same(bar_of([(1, "b", -7), (1, "a", -2)]), (2, -9, -7, -2, (1, "a", -2), (1, "b", -7)))

    def test_thirty_figures_either_way(self):
        rows = [(MOST_WIDE, f"k{at}", MOST_WIDE) for at in range(30)]
        rows += [(-MOST_WIDE, f"m{at}", MOST_WIDE) for at in range(30)]
        self.same(bar_of(rows), (60, 60 * MOST_WIDE, MOST_WIDE, MOST_WIDE, (-MOST_WIDE, "m0", MOST_WIDE),
                                 (MOST_WIDE, "k9", MOST_WIDE)))
        self.same(bar_of(far_entries()), (25, 0, -MOST_WIDE, MOST_WIDE, (-MOST_WIDE, "1k0", MOST_WIDE),
                                          (MOST_WIDE, "0k4", -10 ** 29)))

    def test_beside_the_slow_way(self):
        for entries in many_lists():
            self.same(bar_of(entries), slow_bar(entries))

    def test_in_any_order(self):
        for rows in itertools.permutations(FIVE):
            self.same(bar_of(rows), (5, 12, -4, 10, (-2, "z9", -4), (7, "b", 3)))

    def test_lists_for_tuples_and_tuples_for_lists(self):
        for entries in many_lists():
            for handed in [listed(entries), tupled(entries), tuple(listed(entries)), list(tupled(entries))]:
                self.same(bar_of(handed), slow_bar(entries))


class Joined(Case):

    def test_with_none(self):
        self.same(joined(empty(), empty()), NO_BAR)
        for entries in many_lists():
            self.same(joined(bar_of(entries), empty()), slow_bar(entries))
            self.same(joined(empty(), bar_of(entries)), slow_bar(entries))

    def test_by_hand(self):
        one = (2, 5, -4, 9, (3, "b", 9), (8, "a", -4))
        other = (3, -6, -3, -1, (3, "a", -1), (8, "aa", -2))
        wanted = (5, -1, -4, 9, (3, "a", -1), (8, "aa", -2))
        self.same(joined(one, other), wanted)
        self.same(joined(other, one), wanted)

    def test_one_within_the_other(self):
        one, other = [(0, "a", 1), (9, "b", 2)], [(3, "c", 50), (4, "d", -50)]
        self.same(joined(bar_of(one), bar_of(other)), (4, 3, -50, 50, (0, "a", 1), (9, "b", 2)))
        self.same(joined(bar_of(other), bar_of(one)), (4, 3, -50, 50, (0, "a", 1), (9, "b", 2)))

    def test_any_two_parts_of_entries(self):
        chance = random.Random(21)
        for entries in many_lists():
            for _ in range(8):
                one = [entry for entry in entries if chance.random() < 0.4]
                other = [entry for entry in entries if entry not in one]
                self.same(joined(bar_of(one), bar_of(other)), slow_bar(entries))
                self.same(joined(bar_of(other), bar_of(one)), slow_bar(entries))

    def test_one_by_one_in_any_order(self):
        chance = random.Random(22)
        for entries in many_lists():
            bars = [bar_of([entry]) for entry in entries] + [empty(), empty()]
            while len(bars) > 1:
                one = bars.pop(chance.randrange(len(bars)))
                other = bars.pop(chance.randrange(len(bars)))
                bars.append(joined(one, other))
            self.same(bars[0], slow_bar(entries))

    def test_lists_for_tuples(self):
        for entries in many_lists():
            one, other = bar_of(entries[::2]), bar_of(entries[1::2])
            for handed in [(listed(one), other), (one, listed(other)), (listed(one), listed(other)),
                           (list(one), list(other))]:
                self.same(joined(*handed), slow_bar(entries))
        self.same(joined(list(NO_BAR), list(NO_BAR)), NO_BAR)
        self.same(joined(list(NO_BAR), listed(bar_of(FIVE))), slow_bar(FIVE))
        self.same(joined(listed(bar_of(FIVE)), list(NO_BAR)), slow_bar(FIVE))


class Own(Case):

    def test_what_is_handed_in_stays_as_it_was(self):
        rows = listed(FIVE)
        in_order(rows), bar_of(rows)
        self.same(rows, listed(FIVE))
        one, other = listed(bar_of(FIVE[:2])), listed(bar_of(FIVE[2:]))
        before = (listed(one), listed(other))
        joined(one, other), joined(one, list(NO_BAR))
        self.same((one, other), before)

    def test_changed_behind_the_call(self):
        rows = listed(FIVE)
        ordered, bar = in_order(rows), bar_of(rows)
        parts = [listed(bar_of(FIVE[:2])), listed(bar_of(FIVE[2:]))]
        both, alone = joined(parts[0], parts[1]), joined(parts[0], empty())
        for row in rows + [parts[0][4], parts[0][5], parts[1][4], parts[1][5]]:
            row[0] = 99
            row[2] = 99
        rows.clear()
        parts[0][0] = 7
        self.same(ordered, slow_order(FIVE))
        self.same(bar, slow_bar(FIVE))
        self.same(both, slow_bar(FIVE))
        self.same(alone, slow_bar(FIVE[:2]))

    def test_what_is_told_is_its_askers_own(self):
        rows = list(FIVE)
        told = in_order(rows)
        told.pop()
        told[0] = (99, "x", 99)
        self.assertEqual(rows, FIVE)
        self.same(in_order(rows), slow_order(FIVE))
        sorted_rows = slow_order(FIVE)
        in_order(sorted_rows).clear()
        self.same(sorted_rows, slow_order(FIVE))

    def test_asked_again_the_same_is_told(self):
        for entries in many_lists():
            self.same(in_order(entries), in_order(entries))
            self.same(bar_of(entries), bar_of(entries))
            one, other = bar_of(entries[:3]), bar_of(entries[3:])
            self.same(joined(one, other), joined(one, other))
        self.same(empty(), empty())


if __name__ == "__main__":
    unittest.main()

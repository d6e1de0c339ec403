"""Promise 17, and 2, 4 and 6 as they bear on it: followers and their news."""

import random
import unittest

from peakroll.errors import NoNumber, NoRoll
from peakroll.followers import Follower
from peakroll.ladders import Ladder
from peakroll.rolls import bars_of
from tests.helps import (FAR, MOST_NUMBER, MOST_WIDE, NO_BAR, NO_NUMBERS, NO_WHOLES, SMALL, Case, far_entries, listed,
                         slow_bar, some_entries, tupled)

TENS = Ladder(0, [10], [(0, [10])])
ROWS = [(1, "a", 5), (2, "b", 7), (12, "c", -1), (39, "d", 3)]
BARS = {0: (2, 12, 5, 7, (1, "a", 5), (2, "b", 7)), 1: (1, -1, -1, -1, (12, "c", -1), (12, "c", -1)),
        3: (1, 3, 3, 3, (39, "d", 3), (39, "d", 3))}


def slow_bars(ladder, roll, begin, end, entries):
    """The bars of the span that have entries, as a dict, asked for what lies in their stretches."""
    found = {}
    for number in {ladder.bar_at(roll, entry[0]) for entry in entries}:
        if begin <= number < end:
            first, behind = ladder.stretch(roll, number)
            found[number] = slow_bar([entry for entry in entries if first <= entry[0] < behind])
    return found


class News(Case):

    def test_at_first_each_bar_is_known_as_that_of_no_entries(self):
        self.same(Follower(TENS, 0, 0, 10).news(ROWS), [(number, NO_BAR, BARS[number]) for number in (0, 1, 3)])
        self.same(Follower(TENS, 0, 0, 10).news([]), [])
        self.same(Follower(TENS, 1, 0, 10).news(ROWS),
                  [(0, NO_BAR, (4, 14, -1, 7, (1, "a", 5), (39, "d", 3)))])

    def test_from_a_number_up_to_another_not_with_it(self):
        for begin, end, wanted in [(0, 1, [0]), (0, 3, [0, 1]), (0, 4, [0, 1, 3]), (1, 3, [1]), (1, 4, [1, 3]),
                                   (2, 3, []), (3, 4, [3]), (-5, 0, []), (-5, 1, [0]), (4, 9, [])]:
            self.same(Follower(TENS, 0, begin, end).news(ROWS), [(number, NO_BAR, BARS[number]) for number in wanted])

    def test_asked_twice(self):
        follower = Follower(TENS, 0, 0, 10)
        self.assertEqual(len(follower.news(ROWS)), 3)
        self.same(follower.news(ROWS), [])
        self.same(follower.news(ROWS[::-1]), [])
        self.same(follower.news(ROWS), [])

    def test_as_it_knew_it_and_as_it_is(self):
        follower = Follower(TENS, 0, 0, 10)
        follower.news(ROWS)
        self.same(follower.news(ROWS + [(19, "e", 4)]),
                  [(1, BARS[1], (2, 3, -1, 4, (12, "c", -1), (19, "e", 4)))])
        self.same(follower.news(ROWS), [(1, (2, 3, -1, 4, (12, "c", -1), (19, "e", 4)), BARS[1])])
        self.same(follower.news(ROWS), [])

    def test_taken_away_behind_the_news(self):
        follower = Follower(TENS, 0, 0, 10)
        follower.news(ROWS)
        self.same(follower.news(ROWS[:3]), [(3, BARS[3], NO_BAR)])
        self.same(follower.news(ROWS[:3]), [])
        self.same(follower.news([]), [(0, BARS[0], NO_BAR), (1, BARS[1], NO_BAR)])
        self.same(follower.news([]), [])
        self.same(follower.news(ROWS), [(number, NO_BAR, BARS[number]) for number in (0, 1, 3)])

    def test_moved_into_the_span_and_out_of_it(self):
        follower = Follower(TENS, 0, 0, 2)
        self.same(follower.news([(20, "a", 1)]), [])
        self.same(follower.news([(19, "a", 1)]),
                  [(1, NO_BAR, (1, 1, 1, 1, (19, "a", 1), (19, "a", 1)))])
        self.same(follower.news([(-1, "a", 1)]),
                  [(1, (1, 1, 1, 1, (19, "a", 1), (19, "a", 1)), NO_BAR)])
        self.same(follower.news([(20, "a", 1)]), [])

    def test_put_right_by_the_news_it_is_what_is(self):
        for seed, (begin, parts, rows) in enumerate(SMALL + FAR):
            chance, ladder = random.Random(seed), Ladder(begin, parts, rows)
            for roll in range(ladder.rolls()):
                middle = ladder.bar_at(roll, 0)
                start, end = middle + chance.randint(-6, 0), middle + chance.randint(1, 6)
                follower, known = Follower(ladder, roll, start, end), {}
                for step in range(8):
                    low, high = chance.choice([(-9, 9), (-60, 60), (0, 0), (-MOST_WIDE, MOST_WIDE)])
                    entries = some_entries(chance.random(), chance.choice([0, 1, 10, 40]), low, high)
                    now = slow_bars(ladder, roll, start, end, entries)
                    news = follower.news(entries)
                    self.assertEqual([row[0] for row in news], sorted({row[0] for row in news}))
                    for number, before, after in news:
                        self.same(before, known.get(number, NO_BAR))
                        self.assertNotEqual(before, after)
                        known[number] = after
                    self.same({number: bar for number, bar in known.items() if bar != NO_BAR}, now)
                    self.same(follower.news(entries), [])


class Spans(Case):

    def test_of_forty_figures(self):
        for begin, parts, rows in SMALL + FAR:
            ladder = Ladder(begin, parts, rows)
            for roll in range(ladder.rolls()):
                follower = Follower(ladder, roll, -MOST_NUMBER, MOST_NUMBER)
                for entries in [far_entries(), ROWS, some_entries(81, 60, -MOST_WIDE, MOST_WIDE)]:
                    follower.news([])
                    self.same(follower.news(entries),
                              [(number, NO_BAR, bar) for number, bar in bars_of(ladder, roll, entries)])
                    self.same(follower.news(entries), [])

    def test_at_the_ends_of_forty_figures(self):
        for begin, end in [(-MOST_NUMBER, 1 - MOST_NUMBER), (MOST_NUMBER - 1, MOST_NUMBER), (-MOST_NUMBER, 0),
                           (5, MOST_NUMBER)]:
            follower = Follower(TENS, 0, begin, end)
            self.same(follower.news([(-1, "a", 1)]),
                      [(-1, NO_BAR, (1, 1, 1, 1, (-1, "a", 1), (-1, "a", 1)))] if begin < -1 < end else [])

    def test_far_numbers_and_one_bar(self):
        for number in [10 ** 29 - 1, -10 ** 29, 10 ** 28, -10 ** 28]:
            moment = TENS.stretch(0, number)[0]
            follower = Follower(TENS, 0, number, number + 1)
            rows = [(moment, "a", 4), (moment + 9, "b", 5), (0, "e", 8)]
            # The bar at the end of all moments isn't all within them.
            rows = [row for row in rows if -MOST_WIDE <= row[0] <= MOST_WIDE]
            near = [(other, f"{at}", 1) for at, other in enumerate([moment - 1, moment + 10])
                    if abs(other) <= MOST_WIDE]
            self.same(follower.news(rows + near), [(number, NO_BAR, slow_bar(rows[:-1]))])


class Refused(Case):

    def test_no_roll(self):
        for begin, parts, rows in SMALL + FAR:
            ladder = Ladder(begin, parts, rows)
            for roll in NO_WHOLES + NO_NUMBERS + [-1, -2, len(rows) + 1, len(rows) + 2, 5]:
                self.refused(NoRoll, Follower, ladder, roll, 0, 1)
            Follower(ladder, len(rows), 0, 1)

    def test_no_number(self):
        for wrong in NO_WHOLES + NO_NUMBERS:
            self.refused(NoNumber, Follower, TENS, 0, wrong, 5)
            self.refused(NoNumber, Follower, TENS, 1, 5, wrong)
            self.refused(NoNumber, Follower, TENS, 0, wrong, wrong)
            self.refused(NoNumber, Follower, TENS, 0, -MOST_NUMBER, wrong)
            self.refused(NoNumber, Follower, TENS, 0, wrong, MOST_NUMBER)

    def test_the_end_not_behind_the_beginning(self):
        for begin, end in [(0, 0), (5, 5), (5, 4), (1, -1), (MOST_NUMBER, MOST_NUMBER), (MOST_NUMBER, -MOST_NUMBER),
                           (-MOST_NUMBER, -MOST_NUMBER)]:
            self.refused(NoNumber, Follower, TENS, 0, begin, end)
            self.refused(NoNumber, Follower, TENS, 1, begin, end)

    def test_no_roll_goes_first(self):
        for roll in [-1, 2, None, "0"]:
            for begin, end in [(5, 5), (5, 4), (None, 5), (5, 10 ** 40), (10 ** 40, None)]:
                self.refused(NoRoll, Follower, TENS, roll, begin, end)

    def test_a_refused_call_changes_nothing(self):
        follower = Follower(TENS, 0, 0, 10)
        follower.news(ROWS)
        for things in [(TENS, 2, 0, 1), (TENS, 1, 5, 5), (TENS, 0, None, 9)]:
            self.refused(NoRoll if things[1] == 2 else NoNumber, follower.__init__, *things)
        self.same(follower.news(ROWS), [])
        self.same(follower.news(ROWS[:3]), [(3, BARS[3], NO_BAR)])


class Own(Case):

    def test_lists_for_tuples_and_tuples_for_lists(self):
        wanted = [(number, NO_BAR, BARS[number]) for number in (0, 1, 3)]
        for handed in [listed(ROWS), tupled(ROWS), tuple(listed(ROWS)), ROWS[::-1]]:
            follower = Follower(TENS, 0, 0, 10)
            self.same(follower.news(handed), wanted)
            self.same(follower.news(ROWS), [])
            self.same(follower.news(()), [(number, BARS[number], NO_BAR) for number in (0, 1, 3)])

    def test_what_is_handed_in_stays_and_may_change_behind(self):
        rows = listed(ROWS)
        follower = Follower(TENS, 0, 0, 10)
        told = follower.news(rows)
        self.same(rows, listed(ROWS))
        for row in rows:
            row[2] = 99
            row.clear()
        rows.clear()
        self.same(told, [(number, NO_BAR, BARS[number]) for number in (0, 1, 3)])
        self.same(follower.news(ROWS), [])

    def test_what_is_told_is_its_askers_own(self):
        follower = Follower(TENS, 0, 0, 10)
        told = follower.news(ROWS)
        told.reverse()
        told[0] = None
        told.clear()
        self.same(follower.news(ROWS), [])
        self.same(follower.news([]), [(number, BARS[number], NO_BAR) for number in (0, 1, 3)])

    def test_two_followers_side_by_side(self):
        one, other = Follower(TENS, 0, 0, 10), Follower(TENS, 0, 0, 10)
        one.news(ROWS)
        self.same(other.news(ROWS[2:]), [(number, NO_BAR, BARS[number]) for number in (1, 3)])
        self.same(one.news(ROWS), [])
        self.same(other.news(ROWS), [(0, NO_BAR, BARS[0])])


if __name__ == "__main__":
    unittest.main()

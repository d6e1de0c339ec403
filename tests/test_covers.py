"""Promise 14, with 9 and 15, and 2, 4, 5 and 6 as they bear on it: covers of a time, and the bar of a cover."""

import random
import unittest

from peakroll.covers import bar_of_cover, cover
from peakroll.errors import NoMoment, NoTime, TooMany
from peakroll.ladders import Ladder
from peakroll.rolls import bars_of, between
from tests.helps import (BILLION, FAR, MOST_WIDE, NO_BAR, NO_WHOLES, NO_WIDES, SMALL, Case, far_entries, listed,
                         slow_bar, slow_cover, slow_rolls, some_entries, tupled)

# Bars of roll 0 begin at -10, -6, 0, 4, 10, 14, 20 .., the shut parts at 3, 13, 23 ..; bars of roll 1 begin with those
# of the numbers -4, -1, 1, 4, 6 ..; bars of roll 2 with those of the numbers 0, 2, 4 ..
BY_HAND = Ladder(0, [3, -1, 6], [(-1, [2, 3]), (0, [2])])

# The longest bars there can be: the last roll's are of 12 * 10 ** 21 moments.
LONGEST = Ladder(0, [BILLION] + [-BILLION] * 11, [(0, [1000])] * 4)
LONG = 12 * BILLION * 1000 ** 4


def near(ladder):
    """Moments at the ends of bars of all rolls, and right beside them."""
    places = set()
    for roll in range(ladder.rolls()):
        middle = ladder.bar_at(roll, 0)
        for number in [middle - 2, middle - 1, middle, middle + 1, middle + 2]:
            first = ladder.stretch(roll, number)[0]
            places |= {place for place in (first - 1, first, first + 1) if -MOST_WIDE <= place <= MOST_WIDE}
    return sorted(places)


class Covered(Case):

    def test_by_hand(self):
        self.same(cover(BY_HAND, -20, 40), [("bar", 1, -1), ("bar", 2, 0), ("bar", 1, 2), ("bar", 0, 6), ("bar", 0, 7)])
        self.same(cover(BY_HAND, -5, 16), [("rest", -5, 0), ("bar", 0, 0), ("bar", 0, 1), ("bar", 0, 2),
                                           ("rest", 14, 16)])
        self.same(cover(BY_HAND, -6, 19), [("bar", 1, 0), ("bar", 0, 1), ("bar", 0, 2), ("rest", 14, 19)])
        self.same(cover(BY_HAND, -7, 21), [("rest", -7, -6), ("bar", 2, 0), ("rest", 20, 21)])

    def test_within_one_bar_of_roll_0(self):
        for one, other in [(4, 5), (4, 9), (5, 6), (5, 9), (5, 10), (9, 10)]:
            self.same(cover(BY_HAND, one, other), [("rest", one, other)])
        whole = Ladder(0, [BILLION], [(0, [1])])
        self.same(cover(whole, 0, BILLION - 1), [("rest", 0, BILLION - 1)])
        self.same(cover(whole, 1, BILLION), [("rest", 1, BILLION)])

    def test_in_two_bars_of_roll_0(self):
        self.same(cover(BY_HAND, 3, 5), [("rest", 3, 4), ("rest", 4, 5)])
        self.same(cover(BY_HAND, 3, 10), [("rest", 3, 4), ("bar", 0, 1)])
        self.same(cover(BY_HAND, 4, 11), [("bar", 0, 1), ("rest", 10, 11)])

    def test_just_a_bar(self):
        for begin, parts, rows in SMALL + FAR:
            ladder = Ladder(begin, parts, rows)
            for roll in range(ladder.rolls()):
                for number in [ladder.bar_at(roll, 0) + step for step in range(-4, 5)]:
                    one, other = ladder.stretch(roll, number)
                    if not -MOST_WIDE <= one < other <= MOST_WIDE:
                        continue
                    # A greater bar of the very same stretch goes ahead of it.
                    like = [roll]
                    while like[-1] + 1 < ladder.rolls():
                        greater = like[-1] + 1
                        if ladder.stretch(greater, ladder.bar_at(greater, one)) != (one, other):
                            break
                        like.append(greater)
                    self.same(cover(ladder, one, other), [("bar", like[-1], ladder.bar_at(like[-1], one))])

    def test_rolls_of_the_same_bars_tell_the_greatest(self):
        ladder = Ladder(0, [2], [(5, [1]), (-3, [1]), (1, [1]), (0, [1])])
        self.same(cover(ladder, 0, 4), [("bar", 4, -3), ("bar", 4, -2)])
        self.same(cover(ladder, 1, 5), [("rest", 1, 2), ("bar", 4, -2), ("rest", 4, 5)])

    def test_begun_and_ended_in_a_shut_part(self):
        self.assertEqual([BY_HAND.is_open(moment) for moment in (3, 13, 23)], [False] * 3)
        self.same(cover(BY_HAND, 3, 13), [("rest", 3, 4), ("bar", 0, 1), ("rest", 10, 13)])
        self.same(cover(BY_HAND, 3, 14), [("rest", 3, 4), ("bar", 0, 1), ("bar", 0, 2)])
        self.same(cover(BY_HAND, 3, 23), [("rest", 3, 4), ("bar", 1, 1), ("rest", 20, 23)])
        shut = Ladder(0, [1, -9], [])
        self.same(cover(shut, 5, 8), [("rest", 5, 8)])
        self.same(cover(shut, 0, 9), [("rest", 0, 9)])
        self.same(cover(shut, 0, 10), [("bar", 0, 0)])
        self.same(cover(shut, 1, 10), [("rest", 1, 10)])
        self.same(cover(shut, 9, 11), [("rest", 9, 10), ("rest", 10, 11)])

    def test_no_rows(self):
        ladder = Ladder(7, [2, 3], [])
        self.same(cover(ladder, 7, 17), [("bar", 0, 0), ("bar", 0, 1), ("bar", 0, 2), ("bar", 0, 3)])
        self.same(cover(ladder, 6, 18), [("rest", 6, 7)] + [("bar", 0, at) for at in range(4)] + [("rest", 17, 18)])

    def test_each_time_beside_ladders_laid_out_bar_by_bar(self):
        for begin, parts, rows in SMALL:
            ladder = Ladder(begin, parts, rows)
            rolls = slow_rolls(begin, parts, rows, 60)
            low, high = begin - 17, begin + 17
            # Bars that are far from all the times are left out, so that it doesn't take too long.
            close = [{number: bar for number, bar in bars.items() if low - 1 <= bar[1] and bar[0] <= high}
                     for bars in rolls]
            for one in range(low, high):
                for other in range(one + 1, high + 1):
                    self.same(cover(ladder, one, other), slow_cover(close, one, other))

    def test_longer_times_beside_ladders_laid_out(self):
        for seed, (begin, parts, rows) in enumerate(SMALL):
            chance = random.Random(seed)
            ladder, rolls = Ladder(begin, parts, rows), slow_rolls(begin, parts, rows, 60)
            for _ in range(10):
                one, other = sorted(chance.sample(range(begin - 55, begin + 55), 2))
                self.same(cover(ladder, one, other), slow_cover(rolls, one, other))


class ByTheWords(Case):
    """What the document says of the pieces, held against what is told, wherever the time lies."""

    def pieces_are_right(self, ladder, one, other):
        try:
            pieces = cover(ladder, one, other)
        except TooMany:
            return False
        self.assertLessEqual(len(pieces), 300)
        at = one
        for piece in pieces:
            self.assertIs(type(piece), tuple)
            kind, left, right = piece
            first, behind = ladder.stretch(left, right) if kind == "bar" else (left, right)
            self.assertEqual(first, at)
            self.assertLess(first, behind)
            if kind == "bar":
                self.no_greater_within(ladder, left, first, one, other)
            else:
                self.assertEqual(kind, "rest")
                whole = ladder.stretch(0, ladder.bar_at(0, first))
                self.assertEqual((first, behind), (max(one, whole[0]), min(other, whole[1])))
                self.assertNotEqual((first, behind), whole)
            at = behind
        self.assertEqual(at, other)
        return True

    def no_greater_within(self, ladder, roll, moment, one, other):
        for greater in range(roll + 1, ladder.rolls()):
            first, behind = ladder.stretch(greater, ladder.bar_at(greater, moment))
            self.assertFalse(one <= first and behind <= other)

    def test_near_the_ends_of_bars(self):
        done = 0
        for begin, parts, rows in SMALL + FAR:
            ladder = Ladder(begin, parts, rows)
            places = near(ladder)
            for one in places[::2]:
                for other in places[1::2]:
                    done += one < other and self.pieces_are_right(ladder, one, other)
        self.assertGreater(done, 800)

    def test_far_from_0(self):
        chance, done = random.Random(61), 0
        for begin, parts, rows in SMALL + FAR:
            ladder = Ladder(begin, parts, rows)
            for _ in range(60):
                one = chance.choice([-MOST_WIDE, MOST_WIDE - 10 ** 6, chance.randint(-MOST_WIDE, MOST_WIDE - 10 ** 6)])
                other = one + chance.randint(1, 10 ** chance.randint(1, 6))
                done += self.pieces_are_right(ladder, one, other)
        self.assertGreater(done, 400)

    def test_times_that_are_long_themselves(self):
        chance, done = random.Random(62), 0
        for figures in range(1, 26):
            for begin in [0, -MOST_WIDE, MOST_WIDE, 17]:
                sizes = [[1000, 7], [3], [1000] * 12, [1, 2]]
                ladder = Ladder(begin, [BILLION] + [-BILLION] * 11, [(chance.randint(-99, 99), row) for row in sizes])
                one = chance.randint(-MOST_WIDE, MOST_WIDE - 10 ** 25)
                done += self.pieces_are_right(ladder, one, one + chance.randint(1, 10 ** figures))
        self.assertGreater(done, 30)

    def test_the_moments_of_thirty_figures(self):
        ladder = Ladder(0, [10], [(0, [10])])
        self.same(cover(ladder, MOST_WIDE - 9, MOST_WIDE), [("rest", MOST_WIDE - 9, MOST_WIDE)])
        self.same(cover(ladder, -MOST_WIDE, 1 - MOST_WIDE), [("rest", -MOST_WIDE, 1 - MOST_WIDE)])
        self.same(cover(ladder, MOST_WIDE - 119, MOST_WIDE)[:2],
                  [("bar", 0, 10 ** 29 - 12), ("bar", 0, 10 ** 29 - 11)])
        self.same(cover(ladder, -MOST_WIDE, 100 - 10 ** 30)[-1], ("bar", 0, 9 - 10 ** 29))


class Many(Case):

    def many(self, ladder, one, other, pieces):
        if pieces > 300:
            self.refused(TooMany, cover, ladder, one, other)
        else:
            self.assertEqual(len(cover(ladder, one, other)), pieces)

    def test_bars_of_the_last_roll(self):
        for ladder in [Ladder(0, [1], []), Ladder(0, [1], [(0, [1])] * 4)]:
            for begin in [0, 7, -8, -MOST_WIDE, MOST_WIDE - 302]:
                for pieces in [1, 299, 300, 301, 302]:
                    self.many(ladder, begin, begin + pieces, pieces)
        self.same(cover(Ladder(0, [1], []), 5, 305), [("bar", 0, number) for number in range(5, 305)])

    def test_rests_count(self):
        ladder = Ladder(0, [2], [])
        for bars in [297, 298, 299, 300, 301]:
            self.many(ladder, 0, 2 * bars, bars)
            self.many(ladder, 1, 2 * bars + 2, bars + 1)
            self.many(ladder, 0, 2 * bars + 1, bars + 1)
            self.many(ladder, 1, 2 * bars + 3, bars + 2)

    def test_lesser_bars_on_both_sides(self):
        ladder = Ladder(0, [1], [(0, [1000]), (0, [1000])])
        for one, other, pieces in [(850, 1150, 300), (850, 1151, 301), (849, 1150, 301), (700, 1000, 300),
                                   (699, 1000, 301), (1000, 1300, 300), (1000, 1301, 301), (1, 301, 300), (1, 302, 301),
                                   (851, 2150, 300), (850, 2150, 301), (851, 2151, 301), (900, 102100, 301),
                                   (900, 101100, 300), (0, 300000, 300), (0, 301000, 301), (999999, 300 * 10 ** 6, 300),
                                   (999999, 10 ** 9 // 3, 1001), (999999, 1 + 299 * 10 ** 6, 300),
                                   (999999, 2 + 299 * 10 ** 6, 301), (-150, 150, 300), (-151, 150, 301)]:
            self.many(ladder, one, other, pieces)

    def test_the_longest_bars(self):
        self.many(LONGEST, 0, 300 * LONG, 300)
        self.many(LONGEST, 0, 300 * LONG + 1, 301)
        self.many(LONGEST, 0, 301 * LONG, 301)
        self.many(LONGEST, -150 * LONG, 150 * LONG, 300)
        self.many(LONGEST, -150 * LONG - 1, 150 * LONG, 301)
        self.same(cover(LONGEST, -LONG - 1, LONG + 1),
                  [("rest", -LONG - 1, -LONG), ("bar", 4, -1), ("bar", 4, 0), ("rest", LONG, LONG + 1)])

    def test_thirty_figures_apart(self):
        for begin, parts, rows in SMALL + FAR + [(0, [BILLION] + [-BILLION] * 11, [(0, [1000])] * 4)]:
            ladder = Ladder(begin, parts, rows)
            for one, other in [(-MOST_WIDE, MOST_WIDE), (0, MOST_WIDE), (-MOST_WIDE, 0), (-10 ** 29, 10 ** 29),
                               (MOST_WIDE - 10 ** 29, MOST_WIDE)]:
                self.refused(TooMany, cover, ladder, one, other)

    def test_more_than_can_be_listed(self):
        self.refused(TooMany, cover, Ladder(0, [1], [(0, [1000] * 12)]), -10 ** 12, 10 ** 12)
        self.refused(TooMany, cover, Ladder(0, [1], []), -10 ** 20, 10 ** 20)


class Refused(Case):

    def test_no_moment(self):
        for wrong in NO_WHOLES + NO_WIDES:
            for ladder in [BY_HAND, Ladder(0, [1], [])]:
                self.refused(NoMoment, cover, ladder, wrong, 5)
                self.refused(NoMoment, cover, ladder, 5, wrong)
                self.refused(NoMoment, cover, ladder, wrong, wrong)
                self.refused(NoMoment, cover, ladder, MOST_WIDE, wrong)
                self.refused(NoMoment, cover, ladder, wrong, -MOST_WIDE)

    def test_no_time(self):
        for one, other in [(0, 0), (5, 5), (5, 4), (4, -4), (MOST_WIDE, MOST_WIDE), (-MOST_WIDE, -MOST_WIDE),
                           (MOST_WIDE, -MOST_WIDE), (1, 0)]:
            self.refused(NoTime, cover, BY_HAND, one, other)
            self.refused(NoTime, cover, Ladder(0, [1], []), one, other)

    def test_which_goes_first(self):
        self.refused(NoMoment, cover, BY_HAND, 10 ** 30, 0)
        self.refused(NoMoment, cover, BY_HAND, 0, -10 ** 30)
        self.refused(NoMoment, cover, BY_HAND, -10 ** 30, 10 ** 30)
        self.refused(NoMoment, cover, BY_HAND, 10 ** 30, 10 ** 30)
        self.refused(NoTime, cover, BY_HAND, MOST_WIDE, -MOST_WIDE)


class BarOfACover(Case):

    def test_by_hand(self):
        entries = [(-7, "z", 1), (-6, "a", 5), (19, "b", -2), (20, "c", 3), (21, "d", 9)]
        pieces = cover(BY_HAND, -7, 21)
        self.assertEqual(len(pieces), 3)
        self.same(bar_of_cover(BY_HAND, entries, pieces), (4, 7, -2, 5, (-7, "z", 1), (20, "c", 3)))
        self.same(bar_of_cover(BY_HAND, entries, cover(BY_HAND, -6, 20)),
                  (2, 3, -2, 5, (-6, "a", 5), (19, "b", -2)))
        self.same(bar_of_cover(BY_HAND, entries, cover(BY_HAND, 0, 10)), NO_BAR)
        self.same(bar_of_cover(BY_HAND, [], pieces), NO_BAR)

    def test_the_bar_between_the_two_moments(self):
        for seed, (begin, parts, rows) in enumerate(SMALL):
            ladder = Ladder(begin, parts, rows)
            entries = some_entries(seed, 40, begin - 14, begin + 14)
            for one in range(begin - 15, begin + 15, 2):
                for other in range(one + 1, begin + 16, 3):
                    told = bar_of_cover(ladder, entries, cover(ladder, one, other))
                    self.same(told, between(entries, one, other))
                    self.same(told, slow_bar([entry for entry in entries if one <= entry[0] < other]))

    def test_far(self):
        entries = far_entries()
        for begin, parts, rows in SMALL + FAR:
            ladder = Ladder(begin, parts, rows)
            for moment in [-MOST_WIDE, -10 ** 29, 0, 10 ** 29, MOST_WIDE]:
                for one, other in [(moment - 40, moment + 40), (moment, moment + 1), (moment - 1, moment)]:
                    one, other = max(one, -MOST_WIDE), min(other, MOST_WIDE)
                    if one < other:
                        told = bar_of_cover(ladder, entries, cover(ladder, one, other))
                        self.same(told, slow_bar([entry for entry in entries if one <= entry[0] < other]))

    def test_of_one_bar(self):
        for begin, parts, rows in SMALL:
            ladder = Ladder(begin, parts, rows)
            entries = some_entries(63, 30, begin - 20, begin + 20)
            for roll in range(ladder.rolls()):
                for number, bar in bars_of(ladder, roll, entries):
                    self.same(bar_of_cover(ladder, entries, [("bar", roll, number)]), bar)
                    self.same(bar_of_cover(ladder, entries, cover(ladder, *ladder.stretch(roll, number))), bar)

    def test_three_hundred_pieces(self):
        ladder = Ladder(0, [1], [])
        entries = some_entries(64, 60, -5, 305)
        self.same(bar_of_cover(ladder, entries, cover(ladder, 0, 300)), between(entries, 0, 300))

    def test_pieces_and_entries_in_any_order_lists_and_tuples(self):
        chance = random.Random(65)
        entries = some_entries(66, 30, -20, 45)
        pieces = cover(BY_HAND, -17, 39)
        wanted = between(entries, -17, 39)
        for handed in [entries[::-1], chance.sample(entries, 30), listed(entries), tupled(entries)]:
            for told in [pieces, pieces[::-1], chance.sample(pieces, len(pieces)), listed(pieces), tupled(pieces),
                         tuple(listed(pieces))]:
                self.same(bar_of_cover(BY_HAND, handed, told), wanted)


class Own(Case):

    def test_what_is_handed_in_stays_and_may_change_behind(self):
        rows, pieces = listed([(1, "a", 2), (12, "b", 3)]), listed(cover(BY_HAND, 1, 15))
        before = (listed(rows), listed(pieces))
        bar = bar_of_cover(BY_HAND, rows, pieces)
        self.same((rows, pieces), before)
        for row in rows + pieces:
            row.clear()
        rows.clear()
        pieces.clear()
        self.same(bar, (2, 5, 2, 3, (1, "a", 2), (12, "b", 3)))

    def test_what_is_told_is_its_askers_own(self):
        told = cover(BY_HAND, -17, 39)
        before = list(told)
        told.reverse()
        told.pop()
        told[0] = None
        self.same(cover(BY_HAND, -17, 39), before)

    def test_asked_again_the_same_is_told(self):
        for _ in range(2):
            self.same(cover(BY_HAND, 1, 15), [("rest", 1, 4), ("bar", 0, 1), ("bar", 0, 2), ("rest", 14, 15)])
            self.refused(TooMany, cover, BY_HAND, -MOST_WIDE, MOST_WIDE)


if __name__ == "__main__":
    unittest.main()

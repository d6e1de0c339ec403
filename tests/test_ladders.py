"""Promises 4, 5 and 6: rolls, stretches, open moments, and what is refused when they are asked."""

import unittest

from peakroll.errors import NoMoment, NoNumber, NoRoll
from peakroll.ladders import Ladder
from tests.helps import (BILLION, FAR, MOST_NUMBER, MOST_WIDE, NO_NUMBERS, NO_WHOLES, NO_WIDES, SMALL, Case, slow_bars,
                         slow_groups, slow_rolls)


class ByHand(Case):
    """The bars of two ladders, worked out on paper."""

    def test_shut_parts_side_by_side_and_at_the_end(self):
        ladder = Ladder(10, [3, -1, -2, 4, -5], [])
        self.assertEqual([ladder.stretch(0, number) for number in range(-3, 4)],
                         [(-14, -5), (-5, 1), (1, 10), (10, 16), (16, 25), (25, 31), (31, 40)])
        self.assertEqual([at for at in range(-6, 28) if ladder.is_open(at)],
                         [-5, -4, -3, 1, 2, 3, 4, 10, 11, 12, 16, 17, 18, 19, 25, 26, 27])

    def test_rows(self):
        ladder = Ladder(0, [10, -2, 5], [(-1, [2, 3]), (2, [2])])
        self.assertEqual([ladder.stretch(0, number) for number in [-2, -1, 0, 1, 2]],
                         [(-17, -5), (-5, 0), (0, 12), (12, 17), (17, 29)])
        self.assertEqual([ladder.lesser(1, number) for number in [-3, -2, -1, 0, 1, 2]],
                         [(-9, 3), (-6, 2), (-4, 3), (-1, 2), (1, 3), (4, 2)])
        self.assertEqual([ladder.lesser(2, number) for number in [-2, -1, 0, 1]], [(-2, 2), (0, 2), (2, 2), (4, 2)])
        self.assertEqual([ladder.greater(0, number) for number in range(-4, 6)], [-1, -1, -1, 0, 0, 1, 1, 1, 2, 2])
        self.assertEqual([ladder.greater(1, number) for number in range(-2, 6)], [-2, -2, -1, -1, 0, 0, 1, 1])
        self.assertEqual(ladder.stretch(1, 0), (-5, 12))
        self.assertEqual(ladder.stretch(1, 1), (12, 34))
        self.assertEqual(ladder.stretch(2, -1), (-5, 34))
        self.assertEqual(ladder.bar_at(2, -5), -1)
        self.assertEqual(ladder.bar_at(2, 33), -1)
        self.assertEqual(ladder.bar_at(2, 34), 0)

    def test_stretches_are_tuples_of_two(self):
        ladder = Ladder(0, [2], [(0, [3])])
        for told in [ladder.stretch(0, 4), ladder.stretch(1, -4), ladder.lesser(1, 2)]:
            self.assertIs(type(told), tuple)
            self.assertEqual(len(told), 2)

    def test_parts_of_a_billion_either_way(self):
        ladder = Ladder(0, [BILLION, -BILLION], [(0, [1000])])
        self.assertEqual(ladder.stretch(0, 3), (6 * BILLION, 8 * BILLION))
        self.assertEqual(ladder.stretch(1, -1), (-2000 * BILLION, 0))
        self.assertEqual([ladder.is_open(at) for at in [0, BILLION - 1, BILLION, 2 * BILLION - 1, 2 * BILLION]],
                         [True, True, False, False, True])
        self.assertEqual([ladder.is_open(at) for at in [-1, -BILLION, -BILLION - 1, -2 * BILLION, -2 * BILLION - 1]],
                         [False, False, True, True, False])


class BarByBar(Case):
    """Small ladders, beside what is found when each bar is laid out."""

    def test_roll_0_and_open_moments(self):
        for begin, parts, rows in SMALL:
            ladder = Ladder(begin, parts, rows)
            for number, (first, shut, behind) in slow_bars(begin, parts, 4).items():
                self.assertEqual(ladder.stretch(0, number), (first, behind))
                for moment in range(first, behind):
                    self.assertEqual(ladder.bar_at(0, moment), number)
                    self.assertIs(ladder.is_open(moment), moment < shut)

    def test_lesser_and_greater(self):
        for begin, parts, rows in SMALL:
            ladder = Ladder(begin, parts, rows)
            for roll, (start, sizes) in enumerate(rows):
                for number, group in slow_groups(start, sizes, 4).items():
                    self.assertEqual(ladder.lesser(roll + 1, number), (group[0], len(group)))
                    for below in group:
                        self.assertEqual(ladder.greater(roll, below), number)

    def test_all_rolls(self):
        for begin, parts, rows in SMALL:
            ladder = Ladder(begin, parts, rows)
            for roll, bars in enumerate(slow_rolls(begin, parts, rows, 60)):
                self.assertTrue(min(bars) < 0 < max(bars))
                for number, (first, behind) in bars.items():
                    self.assertEqual(ladder.stretch(roll, number), (first, behind))
                    for moment in [first, (first + behind) // 2, behind - 1]:
                        self.assertEqual(ladder.bar_at(roll, moment), number)

    def test_each_moment_is_in_just_one_bar_of_each_roll(self):
        for begin, parts, rows in SMALL:
            ladder = Ladder(begin, parts, rows)
            for roll in range(ladder.rolls()):
                for moment in range(begin - 40, begin + 40):
                    near = ladder.bar_at(roll, moment)
                    having = [number for number in range(near - 5, near + 6)
                              if ladder.stretch(roll, number)[0] <= moment < ladder.stretch(roll, number)[1]]
                    self.assertEqual(having, [near])


class Far(Case):

    def moments(self, begin):
        asked = [0, 1, -1, begin, begin + 1, begin - 1, MOST_WIDE, -MOST_WIDE, MOST_WIDE - 12345, 12345 - MOST_WIDE,
                 10 ** 15, -10 ** 15, 123456789012345678901234567890, -987654321098765432109876543210]
        return [moment for moment in asked if -MOST_WIDE <= moment <= MOST_WIDE]

    def whole_bar(self, ladder, roll, number):
        """What holds of each bar beside its neighbours, and of its lesser bars and its greater one."""
        first, behind = ladder.stretch(roll, number)
        self.assertLess(first, behind)
        if abs(number) < MOST_NUMBER:
            self.assertEqual(ladder.stretch(roll, number - 1)[1], first)
            self.assertEqual(ladder.stretch(roll, number + 1)[0], behind)
        for moment in [first, behind - 1]:
            if abs(moment) <= MOST_WIDE:
                self.assertEqual(ladder.bar_at(roll, moment), number)
        for moment, other in [(first - 1, number - 1), (behind, number + 1)]:
            if abs(moment) <= MOST_WIDE:
                self.assertEqual(ladder.bar_at(roll, moment), other)
        if roll > 0:
            self.lesser_bars(ladder, roll, number)
        if roll < ladder.rolls() - 1 and abs(ladder.greater(roll, number)) <= MOST_NUMBER:
            at, many = ladder.lesser(roll + 1, ladder.greater(roll, number))
            self.assertTrue(at <= number < at + many)

    def lesser_bars(self, ladder, roll, number):
        first, behind = ladder.stretch(roll, number)
        at, many = ladder.lesser(roll, number)
        last = at + many - 1
        # A bar of forty figures may have lesser bars of more, which can't be asked.
        if abs(at) > MOST_NUMBER or abs(last) > MOST_NUMBER:
            return
        self.assertEqual(ladder.stretch(roll - 1, at)[0], first)
        self.assertEqual(ladder.stretch(roll - 1, last)[1], behind)
        for below in [at, last, (at + last) // 2]:
            self.assertEqual(ladder.greater(roll - 1, below), number)
        if abs(at) < MOST_NUMBER and abs(last) < MOST_NUMBER:
            self.assertEqual(ladder.greater(roll - 1, at - 1), number - 1)
            self.assertEqual(ladder.greater(roll - 1, last + 1), number + 1)

    def test_bars_that_have_a_moment(self):
        for begin, parts, rows in FAR + SMALL:
            ladder = Ladder(begin, parts, rows)
            for moment in self.moments(begin):
                for roll in range(ladder.rolls()):
                    number = ladder.bar_at(roll, moment)
                    first, behind = ladder.stretch(roll, number)
                    self.assertTrue(first <= moment < behind)
                    self.whole_bar(ladder, roll, number)
                    if roll > 0:
                        self.assertEqual(ladder.greater(roll - 1, ladder.bar_at(roll - 1, moment)), number)

    def test_bars_by_number(self):
        asked = [0, 1, -1, 13, -13, 10 ** 20, -10 ** 20, 10 ** 39 + 7, -10 ** 39 - 7, MOST_NUMBER // 1000 - 5,
                 MOST_NUMBER - 1, 1 - MOST_NUMBER, MOST_NUMBER, -MOST_NUMBER]
        for begin, parts, rows in FAR + SMALL:
            ladder = Ladder(begin, parts, rows)
            for roll in range(ladder.rolls()):
                for number in asked:
                    self.whole_bar(ladder, roll, number)

    def test_numbers_of_forty_figures_by_hand(self):
        ladder = Ladder(3, [10, -5], [(2, [4, 6])])
        for number in [MOST_NUMBER, -MOST_NUMBER]:
            self.assertEqual(ladder.stretch(0, number), (3 + 15 * number, 18 + 15 * number))
            # Either number is odd, so a size of 6 lies there, behind one of 4.
            at = 2 + 10 * (number // 2) + 4
            self.assertEqual(ladder.lesser(1, number), (at, 6))
            self.assertEqual(ladder.stretch(1, number), (3 + 15 * at, 3 + 15 * (at + 6)))
        self.assertEqual(ladder.greater(0, MOST_NUMBER), 2 * 10 ** 39 - 1)
        self.assertEqual(ladder.greater(0, -MOST_NUMBER), -2 * 10 ** 39 - 1)

    def test_by_whole_rounds(self):
        for begin, parts, rows in SMALL:
            ladder = Ladder(begin, parts, rows)
            length = sum(abs(part) for part in parts)
            many = len([part for part in parts if part > 0])
            for turns in [10 ** 27 + 3, -10 ** 27 - 3]:
                for moment in range(begin, begin + length):
                    far = moment + turns * length
                    self.assertEqual(ladder.bar_at(0, far), ladder.bar_at(0, moment) + turns * many)
                    self.assertIs(ladder.is_open(far), ladder.is_open(moment))

    def test_each_number_told_may_be_asked(self):
        for begin in [MOST_WIDE, -MOST_WIDE]:
            ladder = Ladder(begin, [1], [(begin, [1])] * 4)
            for moment in [MOST_WIDE, -MOST_WIDE]:
                for roll in range(5):
                    number = ladder.bar_at(roll, moment)
                    self.assertEqual(number, moment - (roll + 1) * begin)
                    self.assertEqual(ladder.stretch(roll, number), (moment, moment + 1))

    def test_stretches_may_have_more_figures_than_moments(self):
        ladder = Ladder(MOST_WIDE - 1, [2], [])
        self.assertEqual(ladder.stretch(0, ladder.bar_at(0, MOST_WIDE)), (10 ** 30 - 2, 10 ** 30))


class Open(Case):

    def test_at_the_ends_of_parts(self):
        ladder = Ladder(100, [5, -3, 2, -1, -4], [(1, [2])])
        opened = [100, 104, 108, 109, 115, 119, 85, 89, 93, 94, -14985 + 100]
        closed = [105, 107, 110, 114, 120, 99, 95, 90, 92, 84, 80, -14985 + 99]
        for moment in opened:
            self.assertIs(ladder.is_open(moment), True, moment)
        for moment in closed:
            self.assertIs(ladder.is_open(moment), False, moment)

    def test_no_shut_part(self):
        for moment in [0, 1, -1, MOST_WIDE, -MOST_WIDE]:
            self.assertIs(Ladder(5, [2, 3], []).is_open(moment), True)

    def test_far(self):
        ladder = Ladder(0, [9, -1], [])
        self.assertIs(ladder.is_open(MOST_WIDE), False)
        self.assertIs(ladder.is_open(MOST_WIDE - 1), True)
        self.assertIs(ladder.is_open(-MOST_WIDE), True)
        self.assertIs(ladder.is_open(-MOST_WIDE + 7), True)
        self.assertIs(ladder.is_open(-MOST_WIDE + 8), False)


class Refused(Case):

    def ladders(self):
        return [Ladder(0, [1], []), Ladder(3, [2, -1], [(0, [2]), (1, [3])]), Ladder(0, [1], [(0, [1])] * 4)]

    def test_no_roll(self):
        for ladder in self.ladders():
            last = ladder.rolls() - 1
            for roll in NO_WHOLES + NO_WIDES + [-1, -2, last + 1, last + 2, 5]:
                for call in [ladder.bar_at, ladder.stretch, ladder.lesser, ladder.greater]:
                    self.refused(NoRoll, call, roll, 0)
            self.refused(NoRoll, ladder.lesser, 0, 0)
            self.refused(NoRoll, ladder.greater, last, 0)
            for roll in range(last + 1):
                ladder.bar_at(roll, 0)
                ladder.stretch(roll, 0)
            for roll in range(1, last + 1):
                ladder.lesser(roll, 0)
                ladder.greater(roll - 1, 0)

    def test_no_moment(self):
        for ladder in self.ladders():
            for moment in NO_WHOLES + NO_WIDES:
                self.refused(NoMoment, ladder.is_open, moment)
                for roll in range(ladder.rolls()):
                    self.refused(NoMoment, ladder.bar_at, roll, moment)

    def test_no_number(self):
        for ladder in self.ladders():
            for number in NO_WHOLES + NO_NUMBERS:
                for roll in range(ladder.rolls()):
                    self.refused(NoNumber, ladder.stretch, roll, number)
                for roll in range(1, ladder.rolls()):
                    self.refused(NoNumber, ladder.lesser, roll, number)
                    self.refused(NoNumber, ladder.greater, roll - 1, number)

    def test_no_roll_goes_first(self):
        for ladder in self.ladders():
            last = ladder.rolls() - 1
            for roll in [-1, last + 1, None, True, "0", [0]]:
                for wrong in [None, True, "0", [0], 10 ** 40, 10 ** 5000]:
                    for call in [ladder.bar_at, ladder.stretch, ladder.lesser, ladder.greater]:
                        self.refused(NoRoll, call, roll, wrong)
            self.refused(NoRoll, ladder.lesser, 0, None)
            self.refused(NoRoll, ladder.greater, last, None)

    def test_true_and_false_are_no_rolls_moments_or_numbers(self):
        ladder = Ladder(0, [1], [(0, [1])])
        for wrong in [True, False]:
            self.refused(NoRoll, ladder.bar_at, wrong, 0)
            self.refused(NoRoll, ladder.lesser, wrong, 0)
            self.refused(NoMoment, ladder.bar_at, 0, wrong)
            self.refused(NoMoment, ladder.is_open, wrong)
            self.refused(NoNumber, ladder.stretch, 0, wrong)
            self.refused(NoNumber, ladder.lesser, 1, wrong)
            self.refused(NoNumber, ladder.greater, 0, wrong)


if __name__ == "__main__":
    unittest.main()

"""Promises 22 to 24, and 2, 4 and 6 as they bear on them: floors, what is told of old time, entries given."""

import random
import unittest

from peakroll.bars import bar_of
from peakroll.errors import Gone, NoFloor, NoMoment, NoNumber, NoRoll, NoTime, Sealed, TooMany
from peakroll.keepers import Keeper
from peakroll.ladders import Ladder
from peakroll.rolls import between
from tests.helps import (FAR, MOST_NUMBER, MOST_WIDE, NO_BAR, NO_NUMBERS, NO_WHOLES, NO_WIDES, SMALL, Case, far_entries,
                         listed, slow_bar, slow_order, some_entries, tupled)
from tests.slow_house import SlowKeeper, tell

# Bars of roll 0 begin at 0, 10, 20 ..; of roll 1 at 0, 50, 100 ..; of roll 2 at 0, 100, 200 ..
TENS = Ladder(0, [4, -6], [(0, [5]), (0, [2])])
ROWS = [(1, "a", 5), (12, "b", 7), (19, "c", -4), (20, "d", 2), (55, "e", -1), (120, "f", 3), (-30, "g", 9)]


def keeper_of(rows, *forgettings):
    keeper = Keeper(TENS)
    keeper.give(rows)
    for level, moment in forgettings:
        keeper.forget(level, moment)
    return keeper


def told_by(keeper):
    """All that a keeper of this ladder tells, near its entries."""
    floors = [tell(keeper.floor, level) for level in (-1, 0, 1, 2)]
    bars = [tell(keeper.bar, roll, number) for roll in range(3) for number in range(-5, 14)]
    times = [tell(keeper.bar_between, one, other) for one in range(-30, 130, 7) for other in range(-27, 130, 9)]
    return (floors, keeper.entries(), keeper.sealed(), bars, times)


class Floors(Case):

    def test_at_first_there_is_none(self):
        for begin, parts, rows in SMALL + FAR:
            ladder = Ladder(begin, parts, rows)
            keeper = Keeper(ladder)
            for level in range(-1, ladder.rolls() - 1):
                self.assertIsNone(keeper.floor(level))
            self.same(keeper.entries(), [])
            self.same(keeper.sealed(), [])
            self.same(keeper.bar(0, 0), NO_BAR)

    def test_the_first_moment_of_the_next_greater_rolls_bar(self):
        for moment, place in [(0, 0), (3, 0), (9, 0), (10, 10), (155, 150), (-1, -10), (-10, -10), (-11, -20)]:
            keeper = Keeper(TENS)
            self.assertIsNone(keeper.forget(-1, moment))
            self.same([keeper.floor(level) for level in (-1, 0, 1)], [place, None, None])
        for moment, place in [(0, 0), (49, 0), (50, 50), (99, 50), (-1, -50), (-51, -100)]:
            keeper = keeper_of([], (-1, 500), (0, moment))
            self.same([keeper.floor(level) for level in (-1, 0, 1)], [500, place, None])
        for moment, place in [(0, 0), (99, 0), (100, 100), (-1, -100), (-101, -200)]:
            keeper = keeper_of([], (-1, 500), (0, 500), (1, moment))
            self.same([keeper.floor(level) for level in (-1, 0, 1)], [500, 500, place])

    def test_raised_again(self):
        keeper = keeper_of(ROWS, (-1, 15))
        for moment in [10, 13, 19]:
            keeper.forget(-1, moment)
            self.same(keeper.floor(-1), 10)
        keeper.forget(-1, 500)
        for level, places in [(0, [(60, 50), (50, 50), (99, 50), (100, 100)]), (1, [(99, 0), (0, 0), (100, 100)])]:
            for moment, place in places:
                keeper.forget(level, moment)
                self.same(keeper.floor(level), place)

    def test_below_the_levels_own(self):
        keeper = keeper_of(ROWS, (-1, 255), (0, 205), (1, 205))
        before = told_by(keeper)
        self.same(before[0], [250, 200, 200, NoRoll])
        for level, moment in [(-1, 249), (-1, 0), (-1, -MOST_WIDE), (0, 199), (0, -MOST_WIDE), (1, 199), (1, 0)]:
            self.refused(NoFloor, keeper.forget, level, moment)
        self.same(told_by(keeper), before)

    def test_above_the_next_lesser_levels(self):
        keeper = Keeper(TENS)
        self.refused(NoFloor, keeper.forget, 0, 0)
        self.refused(NoFloor, keeper.forget, 0, -MOST_WIDE)
        self.refused(NoFloor, keeper.forget, 1, 0)
        keeper.forget(-1, 149)
        self.refused(NoFloor, keeper.forget, 1, -MOST_WIDE)
        self.refused(NoFloor, keeper.forget, 0, 150)
        self.refused(NoFloor, keeper.forget, 0, MOST_WIDE)
        # Any moment of the bar that begins at or ahead of the lesser floor will do.
        keeper.forget(0, 149)
        self.same(keeper.floor(0), 100)
        self.refused(NoFloor, keeper.forget, 1, 200)
        keeper.forget(1, 199)
        self.same(keeper.floor(1), 100)

    def test_levels_that_are_none(self):
        for begin, parts, rows in SMALL + FAR:
            ladder = Ladder(begin, parts, rows)
            keeper = Keeper(ladder)
            keeper.give([(0, "a", 1)])
            for level in NO_WHOLES + NO_WIDES + [-2, -3, len(rows), len(rows) + 1, 5]:
                self.refused(NoRoll, keeper.forget, level, 0)
                self.refused(NoRoll, keeper.forget, level, None)
                self.refused(NoRoll, keeper.floor, level)
            # All the others are, and a moment's bars lie one within another.
            for level in range(-1, len(rows)):
                keeper.forget(level, 0)
                self.same(keeper.floor(level), ladder.stretch(level + 1, ladder.bar_at(level + 1, 0))[0])

    def test_no_moment(self):
        keeper = keeper_of(ROWS, (-1, 15))
        for wrong in NO_WHOLES + NO_WIDES:
            for level in [-1, 0, 1]:
                self.refused(NoMoment, keeper.forget, level, wrong)
        self.same(keeper.floor(-1), 10)

    def test_which_goes_first(self):
        keeper = keeper_of(ROWS, (-1, 15))
        self.refused(NoRoll, keeper.forget, 2, 10 ** 30)
        self.refused(NoRoll, keeper.forget, -2, None)
        self.refused(NoRoll, keeper.forget, 2, -MOST_WIDE)
        self.refused(NoMoment, keeper.forget, -1, -10 ** 30)
        self.refused(NoMoment, keeper.forget, 0, 10 ** 30)
        self.refused(NoMoment, keeper.forget, 1, None)

    def test_floors_of_more_figures_than_a_moment(self):
        ladder = Ladder(MOST_WIDE, [7], [(0, [1000]), (0, [1000])])
        keeper = Keeper(ladder)
        keeper.forget(-1, -MOST_WIDE)
        place = ladder.stretch(0, ladder.bar_at(0, -MOST_WIDE))[0]
        self.same(keeper.floor(-1), place)
        for level in [0, 1]:
            keeper.forget(level, -MOST_WIDE)
            place = ladder.stretch(level + 1, ladder.bar_at(level + 1, -MOST_WIDE))[0]
            self.assertLess(place, -MOST_WIDE)
            self.same(keeper.floor(level), place)

    def test_a_ladder_without_rows(self):
        keeper = Keeper(Ladder(0, [10], []))
        keeper.give(ROWS)
        keeper.forget(-1, 15)
        self.same(keeper.floor(-1), 10)
        self.refused(NoRoll, keeper.floor, 0)
        self.refused(NoRoll, keeper.forget, 0, 0)
        self.same(keeper.bar(0, 0), bar_of(ROWS[:1]))
        self.same(keeper.bar(0, -3), bar_of(ROWS[6:]))
        self.same(keeper.bar_between(-30, 20), bar_of([ROWS[6], ROWS[0], ROWS[1], ROWS[2]]))
        self.refused(Gone, keeper.bar_between, 0, 1)


class Bars(Case):

    def test_behind_at_and_ahead_of_the_floor(self):
        keeper = keeper_of(ROWS, (-1, 25), (0, 20))
        self.same([keeper.floor(level) for level in (-1, 0, 1)], [20, 0, None])
        self.same(keeper.bar(0, 5), bar_of(ROWS[4:5]))
        self.same(keeper.bar(0, 2), bar_of(ROWS[3:4]))
        # Entries are forgotten there, but no bars.
        self.same(keeper.bar(0, 1), bar_of(ROWS[1:3]))
        self.same(keeper.bar(0, 0), bar_of(ROWS[:1]))
        self.refused(Gone, keeper.bar, 0, -1)
        self.refused(Gone, keeper.bar, 0, -3)
        self.refused(Gone, keeper.bar, 0, -MOST_NUMBER)
        self.same(keeper.bar(1, -1), bar_of(ROWS[6:]))
        self.same(keeper.bar(1, 0), bar_of(ROWS[:4]))
        self.same(keeper.bar(2, -1), bar_of(ROWS[6:]))
        self.same(keeper.bar(2, 0), bar_of(ROWS[:5]))

    def test_the_last_roll_is_never_forgotten(self):
        keeper = keeper_of(ROWS, (-1, 500), (0, 500), (1, 500))
        self.refused(Gone, keeper.bar, 0, 49)
        self.refused(Gone, keeper.bar, 1, 9)
        self.same(keeper.bar(0, 50), NO_BAR)
        self.same(keeper.bar(1, 10), NO_BAR)
        for number, rows in [(-1, ROWS[6:]), (0, ROWS[:5]), (1, ROWS[5:6]), (-MOST_NUMBER, []), (MOST_NUMBER, [])]:
            self.same(keeper.bar(2, number), bar_of(rows))

    def test_a_bar_on_both_sides_of_the_floor(self):
        keeper = keeper_of(ROWS, (-1, 25))
        for rows in [[], [(20, "d", 2)], [(49, "x", 40), (20, "d", -20)], [(50, "y", 1)]]:
            keeper.give(rows)
            self.same(keeper.bar(1, 0), slow_bar(ROWS[:3] + [row for row in rows if row[0] < 50]))
            self.same(keeper.bar(2, 0), slow_bar(ROWS[:3] + rows))

    def test_no_roll_and_no_number(self):
        keeper = keeper_of(ROWS, (-1, 500), (0, 500))
        for wrong in NO_WHOLES + NO_WIDES + [-1, -2, 3, 4]:
            self.refused(NoRoll, keeper.bar, wrong, 0)
            self.refused(NoRoll, keeper.bar, wrong, None)
        for wrong in NO_WHOLES + NO_NUMBERS:
            for roll in [0, 1, 2]:
                self.refused(NoNumber, keeper.bar, roll, wrong)
        self.refused(NoNumber, keeper.bar, 0, -10 ** 40)

    def test_what_is_forgotten_is_not_kept(self):
        keeper = keeper_of(ROWS, (-1, 105), (0, 60), (1, 20))
        self.assertEqual(keeper.floors, {-1: 100, 0: 50, 1: 0})
        self.assertEqual(keeper.there, [ROWS[5]])
        self.assertEqual(sorted(keeper.kept_bars), [(0, 5), (1, 0), (1, 1), (2, -1), (2, 0)])

    def test_forgotten_in_one_go_or_step_by_step(self):
        wanted = told_by(keeper_of(ROWS, (-1, 105), (0, 60), (1, 20)))
        for steps in [[(-1, -30), (-1, 15), (-1, 25), (-1, 105), (0, 0), (0, 55), (1, -20), (1, 20)],
                      [(-1, 15), (0, 0), (1, -1), (-1, 60), (0, 60), (1, 55), (-1, 105)],
                      [(-1, 105), (0, -20), (1, -20), (1, -30), (0, 55), (1, 0)]]:
            self.same(told_by(keeper_of(ROWS, *steps)), wanted)


class Times(Case):

    def test_behind_at_and_ahead_of_the_floor(self):
        keeper = keeper_of(ROWS, (-1, 25), (0, 20))
        self.same(keeper.bar_between(20, 60), bar_of(ROWS[3:5]))
        self.same(keeper.bar_between(21, 23), NO_BAR)
        self.same(keeper.bar_between(20, 21), bar_of(ROWS[3:4]))
        # Bars of roll 0 that are there, though their entries aren't.
        self.same(keeper.bar_between(10, 60), bar_of(ROWS[1:5]))
        self.same(keeper.bar_between(0, 20), bar_of(ROWS[:3]))
        self.refused(Gone, keeper.bar_between, 11, 60)
        self.refused(Gone, keeper.bar_between, 19, 20)
        self.refused(Gone, keeper.bar_between, 0, 5)
        self.refused(Gone, keeper.bar_between, 0, 19)
        # Bars of roll 0 that are not there any more, and those of roll 1 that are.
        self.refused(Gone, keeper.bar_between, -10, 60)
        self.refused(Gone, keeper.bar_between, -10, 0)
        self.same(keeper.bar_between(-50, 60), bar_of(ROWS[:5] + ROWS[6:]))
        self.same(keeper.bar_between(-100, 100), bar_of(ROWS[:5] + ROWS[6:]))
        self.same(keeper.bar_between(-200, -50), NO_BAR)
        self.refused(Gone, keeper.bar_between, -51, 0)

    def test_the_last_piece_is_forgotten(self):
        keeper = keeper_of(ROWS, (-1, 200), (0, 200), (1, 200))
        self.same(keeper.bar_between(0, 200), bar_of(ROWS[:6]))
        self.refused(Gone, keeper.bar_between, 0, 199)
        self.refused(Gone, keeper.bar_between, 0, 190)
        self.refused(Gone, keeper.bar_between, 0, 150)
        self.refused(Gone, keeper.bar_between, 100, 150)
        self.same(keeper.bar_between(100, 203), bar_of(ROWS[5:6]))
        self.same(keeper.bar_between(200, 203), NO_BAR)

    def test_refused_as_the_cover_is(self):
        keeper = keeper_of(ROWS, (-1, 25), (0, 20))
        for wrong in NO_WHOLES + NO_WIDES:
            self.refused(NoMoment, keeper.bar_between, wrong, 5)
            self.refused(NoMoment, keeper.bar_between, 5, wrong)
            self.refused(NoMoment, keeper.bar_between, wrong, -MOST_WIDE)
        for one, other in [(5, 5), (5, 4), (-20, -30), (MOST_WIDE, -MOST_WIDE)]:
            self.refused(NoTime, keeper.bar_between, one, other)
        self.refused(TooMany, keeper.bar_between, -MOST_WIDE, MOST_WIDE)
        # 300 bars of roll 2, one of them with a rest beside it; Gone goes behind TooMany.
        self.same(keeper.bar_between(-100, 29900), bar_of(ROWS))
        self.refused(TooMany, keeper.bar_between, -101, 29900)
        self.refused(TooMany, keeper.bar_between, 1, 40000)
        self.refused(Gone, keeper.bar_between, 1, 2000)

    def test_of_nothing_forgotten(self):
        keeper = keeper_of(ROWS)
        for one in range(-35, 130, 4):
            for other in range(one + 1, 130, 3):
                self.same(keeper.bar_between(one, other), between(ROWS, one, other))


class Given(Case):

    def test_these_and_no_others(self):
        keeper = Keeper(TENS)
        self.assertIsNone(keeper.give(ROWS))
        self.same(keeper.entries(), slow_order(ROWS))
        keeper.give(ROWS[:2])
        self.same(keeper.entries(), ROWS[:2])
        self.same(keeper.sealed(), [])
        keeper.give([(99, "a", 1)])
        self.same(keeper.entries(), [(99, "a", 1)])
        self.same(keeper.bar(0, 0), NO_BAR)
        keeper.give([])
        self.same(keeper.entries(), [])
        keeper.give(ROWS)
        self.same(keeper.entries(), slow_order(ROWS))

    def test_ahead_of_the_floor(self):
        keeper = keeper_of(ROWS, (-1, 25))
        before = told_by(keeper)
        for wrong in [(19, "x", 1), (0, "x", 1), (-30, "x", 1), (-MOST_WIDE, "x", 1)]:
            self.refused(Gone, keeper.give, [wrong])
            self.refused(Gone, keeper.give, [(20, "y", 1), wrong, (30, "z", 1)])
            self.refused(Gone, keeper.give, tuple(ROWS[3:6]) + (wrong,))
        self.same(told_by(keeper), before)
        keeper.give([(20, "x", 1)])
        self.same(keeper.entries(), [(20, "x", 1)])

    def test_sealed(self):
        keeper = keeper_of(ROWS, (-1, 25))
        self.same(keeper.sealed(), ["a", "b", "c", "g"])
        before = told_by(keeper)
        for key in "abcg":
            self.refused(Sealed, keeper.give, [(25, key, 1)])
            self.refused(Sealed, keeper.give, ROWS[3:6] + [(MOST_WIDE, key, 1)])
        self.same(told_by(keeper), before)
        keeper.give([(25, "d", 1), (25, "aa", 1)])
        self.same(keeper.entries(), [(25, "aa", 1), (25, "d", 1)])

    def test_gone_goes_ahead_of_sealed(self):
        keeper = keeper_of(ROWS, (-1, 25))
        self.refused(Gone, keeper.give, [(19, "a", 1)])
        self.refused(Gone, keeper.give, [(25, "a", 1), (19, "x", 1)])
        self.refused(Gone, keeper.give, [(19, "x", 1), (25, "a", 1)])
        self.refused(Gone, keeper.give, ROWS)

    def test_a_key_that_is_not_given_is_not_sealed(self):
        keeper = keeper_of(ROWS)
        keeper.give(ROWS[1:])
        keeper.forget(-1, 25)
        self.same(keeper.sealed(), ["b", "c", "g"])
        keeper.give([(30, "a", 1)])
        self.same(keeper.entries(), [(30, "a", 1)])
        keeper.give([])
        keeper.forget(-1, 40)
        self.same(keeper.sealed(), ["b", "c", "g"])
        keeper.give([(40, "d", 1), (41, "a", 2)])
        keeper.forget(-1, 50)
        self.same(keeper.sealed(), ["a", "b", "c", "d", "g"])
        self.same(keeper.bar(1, 0), slow_bar(ROWS[1:3] + [(40, "d", 1), (41, "a", 2)]))

    def test_sealed_keys_are_ordered_as_texts(self):
        rows = [(0, "b", 1), (1, "10", 1), (2, "9", 1), (3, "a1", 1), (-5, "a", 1), (-9, "zz", 1)]
        keeper = keeper_of(rows, (-1, 10))
        self.same(keeper.sealed(), ["10", "9", "a", "a1", "b", "zz"])

    def test_lesser_levels_seal_nothing_more(self):
        keeper = keeper_of(ROWS, (-1, 55), (0, 55), (1, 55))
        self.same(keeper.sealed(), ["a", "b", "c", "d", "g"])
        self.same(keeper.entries(), [(55, "e", -1), (120, "f", 3)])

    def test_what_is_kept_is_what_held_when_it_was_forgotten(self):
        keeper = keeper_of([(1, "a", 5), (2, "b", 6)])
        keeper.give([(1, "a", 50), (12, "b", 6)])
        keeper.forget(-1, 10)
        keeper.give([(12, "b", 7), (13, "c", 8)])
        keeper.give([])
        self.same(keeper.bar(0, 0), bar_of([(1, "a", 50)]))
        self.same(keeper.bar(0, 1), NO_BAR)
        self.same(keeper.bar(1, 0), bar_of([(1, "a", 50)]))

    def test_lists_for_tuples_and_tuples_for_lists(self):
        wanted = told_by(keeper_of(ROWS, (-1, 25)))
        for handed in [listed(ROWS), tupled(ROWS), tuple(listed(ROWS)), ROWS[::-1]]:
            self.same(told_by(keeper_of(handed, (-1, 25))), wanted)
        self.same(told_by(keeper_of((), (-1, 25))), told_by(keeper_of([], (-1, 25))))


class BesideTheSlowWay(Case):

    def test_any_forgettings_and_givings(self):
        refusals = set()
        for seed, (begin, parts, rows) in enumerate(SMALL + [(0, [4, -6], [(0, [5]), (0, [2])])] * 3):
            chance, ladder = random.Random(seed), Ladder(begin, parts, rows)
            keeper, slow = Keeper(ladder), SlowKeeper(ladder)
            for step in range(60):
                self.deed(chance, keeper, slow, begin + step // 2, refusals)
                self.same((keeper.entries(), keeper.sealed()), (slow.entries(), slow.sealed()))
                self.same([tell(keeper.floor, level) for level in slow.floors], list(slow.floors.values()))
                self.look(chance, keeper, slow, begin, refusals)
        self.assertLessEqual({None, Gone, Sealed, NoFloor, NoTime}, refusals)

    def deed(self, chance, keeper, slow, middle, refusals):
        if chance.random() < 0.5:
            level, moment = chance.randint(-2, keeper.ladder.rolls() - 1), chance.randint(middle - 15, middle + 5)
            refusal = tell(keeper.forget, level, moment)
            self.same(refusal, slow.forget(level, moment))
        else:
            low = middle - 12 if chance.random() < 0.2 or slow.floors[-1] is None else slow.floors[-1]
            entries = some_entries(chance.random(), chance.choice([0, 1, 6, 20]), low, low + 25)
            if chance.random() < 0.8:
                entries = [entry for entry in entries if entry[1] not in slow.sealed()]
            refusal = tell(keeper.give, entries)
            self.same(refusal, slow.give(entries))
        refusals.add(refusal)

    def look(self, chance, keeper, slow, begin, refusals):
        for _ in range(12):
            roll = chance.randrange(keeper.ladder.rolls())
            number = keeper.ladder.bar_at(roll, begin + chance.randint(-20, 50))
            self.same(tell(keeper.bar, roll, number), slow.bar(roll, number))
            one, other = begin + chance.randint(-20, 50), begin + chance.randint(-20, 50)
            if chance.random() < 0.5:
                one = keeper.ladder.stretch(roll, number)[0]
            told = tell(keeper.bar_between, one, other)
            self.same(told, slow.bar_between(one, other))
            refusals.add(told if isinstance(told, type) else None)

    def test_far(self):
        for begin, parts, rows in FAR:
            ladder = Ladder(begin, parts, rows)
            keeper, slow = Keeper(ladder), SlowKeeper(ladder)
            keeper.give(far_entries())
            slow.give(far_entries())
            for level, moment in [(-1, -10 ** 29), (0, -MOST_WIDE), (-1, 10 ** 29), (0, 0), (1, -5), (0, -5)]:
                self.same(tell(keeper.forget, level, moment), slow.forget(level, moment))
            self.same((keeper.entries(), keeper.sealed()), (slow.entries(), slow.sealed()))
            self.assertGreater(len(keeper.sealed()), 8)
            for moment in [-MOST_WIDE, -10 ** 29, 0, 10 ** 29, MOST_WIDE]:
                for roll in range(ladder.rolls()):
                    for step in [-1, 0, 1]:
                        number = ladder.bar_at(roll, moment) + step
                        self.same(tell(keeper.bar, roll, number), slow.bar(roll, number))
                for one, other in [(moment - 5, moment + 5), (moment, moment + 40)]:
                    self.same(tell(keeper.bar_between, one, other), slow.bar_between(one, other))


class Own(Case):

    def test_what_is_handed_in_stays_and_may_change_behind(self):
        rows = listed(ROWS)
        keeper = keeper_of(rows)
        before = told_by(keeper)
        self.same(rows, listed(ROWS))
        for row in rows:
            row[2] = 99
            row.clear()
        rows.clear()
        self.same(told_by(keeper), before)
        rows = listed(ROWS)
        keeper.give(rows)
        keeper.forget(-1, 25)
        wanted = told_by(keeper_of(ROWS, (-1, 25)))
        for row in rows:
            row.clear()
        self.same(told_by(keeper), wanted)
        wrong = [[25, "a", 1], [30, "x", 1]]
        self.refused(Sealed, keeper.give, wrong)
        self.same(wrong, [[25, "a", 1], [30, "x", 1]])

    def test_what_is_told_is_its_askers_own(self):
        keeper = keeper_of(ROWS, (-1, 25))
        before = told_by(keeper)
        for told in [keeper.entries(), keeper.sealed()]:
            told.reverse()
            told[0] = None
            told.clear()
        self.same(told_by(keeper), before)
        self.refused(Sealed, keeper.give, [(25, "a", 1)])

    def test_asking_changes_nothing(self):
        keeper = keeper_of(ROWS, (-1, 60), (0, 55))
        self.same(told_by(keeper), told_by(keeper))

    def test_two_keepers_side_by_side(self):
        one, other = keeper_of(ROWS), keeper_of(ROWS)
        before = told_by(other)
        one.forget(-1, 60)
        one.give([])
        self.same(told_by(other), before)


if __name__ == "__main__":
    unittest.main()

"""Promises 20 and 21, and 2 and 3 as they bear on them: states and bounds, plans, and the reach."""

import itertools
import random
import unittest

from peakroll.bars import bar_of
from peakroll.errors import NoBounds, NoState
from peakroll.plans import plan, reach
from tests.helps import MOST_WIDE, NO_LISTS, NO_WHOLES, NO_WIDES, Case, Odd, some_entries

NONE = (0, 0, None, None)
MOST_COUNT = 10 ** 30

STATES = [
    NONE,
    (1, 0, 0, 0),
    (1, -7, -7, -7),
    (1, MOST_WIDE, MOST_WIDE, MOST_WIDE),
    (2, 3, 1, 2),
    (2, 8, 4, 4),
    (3, 4, 1, 2),
    (3, 5, 1, 2),
    (5, -9, -5, 3),
    (MOST_COUNT, 0, 0, 0),
    (MOST_COUNT, 7 * MOST_COUNT, 7, 7),
    (MOST_COUNT, MOST_WIDE * (MOST_COUNT - 1) - MOST_WIDE, -MOST_WIDE, MOST_WIDE),
    (MOST_COUNT, -MOST_WIDE * (MOST_COUNT - 1) + MOST_WIDE, -MOST_WIDE, MOST_WIDE),
]

# Right but for one thing.
NO_STATES = [
    (), [], (0,), (0, 0), (0, 0, None), (0, 0, None, None, None), (0, 0, None, None, None, None), (1, 1, 1),
    (1, 1, 1, 1, 1), (1, 1, 1, 1, (0, "a", 1), (0, "a", 1)), ((1, 1, 1, 1),), [[1, 1, 1, 1]],
    (0, 1, None, None), (0, -1, None, None), (0, 0, 0, 0), (0, 0, 0, None), (0, 0, None, 0), (0, 0, None, False),
    (0, None, None, None), (None, 0, None, None), (False, 0, None, None), (0, False, None, None),
    (None, None, None, None), (0, 0, "", ""), (0, 0, [], []), (0, 0, Odd(), None), (0, 0, None, Odd()),
    (-1, 0, None, None), (-1, 0, 0, 0), (-1, -1, -1, -1), (-2, 0, 0, 0),
    (1, 0, None, None), (1, 0, 0, None), (1, 0, None, 0), (2, 0, None, None),
    (1, 5, 5, 6), (1, 6, 5, 6), (1, 5, 4, 5), (1, 6, 5, 5), (1, 4, 5, 5), (1, 5, 6, 4), (1, 5, 6, 5),
    (2, 4, 1, 2), (2, 2, 1, 2), (2, 3, 2, 1), (2, 9, 4, 4), (2, 7, 4, 4), (2, 5, 1, 5), (2, 7, 1, 5),
    (3, 3, 1, 2), (3, 6, 1, 2), (3, 5, 1, 4), (3, 10, 1, 4), (3, 6, 3, 1), (5, -18, -5, 3), (5, 8, -5, 3),
    (MOST_COUNT + 1, 0, 0, 0), (MOST_COUNT + 1, MOST_COUNT + 1, 1, 1), (10 ** 31, 0, 0, 0), (10 ** 5000, 0, 0, 0),
    (MOST_COUNT, 1, 0, 0), (MOST_COUNT, -1, 0, 0), (MOST_COUNT, 7 * MOST_COUNT - 1, 7, 7),
    (MOST_COUNT, MOST_WIDE * (MOST_COUNT - 1) - MOST_WIDE + 1, -MOST_WIDE, MOST_WIDE),
    (MOST_COUNT, -MOST_WIDE * (MOST_COUNT - 1) + MOST_WIDE - 1, -MOST_WIDE, MOST_WIDE),
    (1, 10 ** 30, 10 ** 30, 10 ** 30), (1, -10 ** 30, -10 ** 30, -10 ** 30), (2, 10 ** 30, 0, 10 ** 30),
    (2, -10 ** 30, -10 ** 30, 0), (2, 10 ** 5000, 0, 10 ** 5000), (1, 10 ** 5000, 1, 1), (2, -10 ** 5000, 1, 2),
    (True, 1, 1, 1), (1, True, 1, 1), (1, 1, True, 1), (1, 1, 1, True), ("1", 1, 1, 1), (1, "1", 1, 1), (1, 1, "1", 1),
    (1, 1, 1, "1"), (1, 1, [1], 1), (1, 1, 1, None), (2, 2, 1, [1]), "1111", "", "0 0 None None",
]
NO_BOUNDS = [(1, 0), (0, -1), (MOST_WIDE, -MOST_WIDE), (10 ** 30, 10 ** 30), (-10 ** 30, 0), (0, 10 ** 30),
             (None, None)]


def state_of(values):
    return (len(values), sum(values), min(values), max(values)) if values else NONE


def added(state, values):
    """The state with the values added, one after another."""
    count, total, least, greatest = state
    for value in values:
        least = value if count == 0 else min(least, value)
        greatest = value if count == 0 else max(greatest, value)
        count, total = count + 1, total + value
    return (count, total, least, greatest)


def slow_reached(state, more, low, high):
    """All states that so many values bring, searched for."""
    return {added(state, values) for values in itertools.combinations_with_replacement(range(low, high + 1), more)}


def all_states(most, low, high):
    """All states of up to so many values from low to high."""
    return sorted({state_of(values) for count in range(1, most + 1)
                   for values in itertools.combinations_with_replacement(range(low, high + 1), count)}) + [NONE]


class PlanCase(Case):

    def brings(self, state, goal, low, high):
        """A plan is told, and it is right."""
        told = plan(state, goal, low, high)
        self.assertIs(type(told), list, (state, goal, low, high))
        for value in told:
            self.assertIs(type(value), int)
            self.assertTrue(low <= value <= high)
        self.assertEqual(told, sorted(told))
        self.assertEqual(len(told), goal[0] - state[0])
        self.assertEqual(added(state, told), tuple(goal))
        return told

    def no_plan(self, state, goal, low, high):
        self.assertIsNone(plan(state, goal, low, high), (state, goal, low, high))


class States(PlanCase):

    def test_what_is_a_state(self):
        for state in STATES:
            for handed in [state, list(state)]:
                self.same(plan(handed, state, 0, 0), [])
                self.same(plan(state, handed, 0, 0), [])
                self.same(reach(handed, 0, 0, 0), [(state[1], state[1])])

    def test_what_is_none(self):
        for wrong in NO_STATES + [thing for thing in NO_LISTS + NO_WHOLES if not isinstance(thing, (list, tuple))]:
            self.refused(NoState, plan, wrong, NONE, 0, 0)
            self.refused(NoState, plan, NONE, wrong, 0, 0)
            self.refused(NoState, plan, (1, 1, 1, 1), wrong, 0, 0)
            self.refused(NoState, plan, wrong, wrong, 0, 0)
            self.refused(NoState, reach, wrong, 0, 0, 0)
            self.refused(NoState, reach, wrong, 5, 0, 0)

    def test_wrong_things_in_each_place(self):
        for wrong in NO_WHOLES:
            for at in range(4):
                for state in [(1, 1, 1, 1), (2, 3, 1, 2)]:
                    self.refused(NoState, plan, state[:at] + (wrong,) + state[at + 1:], state, 0, 9)
                    self.refused(NoState, plan, state, list(state[:at] + (wrong,) + state[at + 1:]), 0, 9)
                if wrong is not None:
                    self.refused(NoState, reach, NONE[:at] + (wrong,) + NONE[at + 1:], 1, 0, 9)

    def test_each_small_one_is_a_state_just_where_values_make_it(self):
        made = set(all_states(4, -2, 2))
        for count in range(5):
            for total in range(-9, 10):
                for least, greatest in itertools.product(range(-2, 3), repeat=2):
                    if (count, total, least, greatest) in made:
                        self.same(plan((count, total, least, greatest), (count, total, least, greatest), 0, 0), [])
                    else:
                        self.refused(NoState, plan, (count, total, least, greatest), NONE, 0, 0)

    def test_a_bars_first_four_are_a_state(self):
        for many in [0, 1, 2, 20]:
            bar = bar_of(some_entries(many, many, -9, 9))
            self.same(plan(bar[:4], bar[:4], 0, 0), [])

    def test_totals_of_any_size(self):
        total = MOST_WIDE * MOST_COUNT
        self.same(reach((MOST_COUNT, total, MOST_WIDE, MOST_WIDE), 1, -MOST_WIDE, MOST_WIDE),
                  [(total, total), (total - MOST_WIDE, total + MOST_WIDE)])


class Bounds(PlanCase):

    def test_what_are_none(self):
        for low, high in NO_BOUNDS:
            self.refused(NoBounds, plan, NONE, NONE, low, high)
            self.refused(NoBounds, plan, (2, 3, 1, 2), (1, 1, 1, 1), low, high)
            self.refused(NoBounds, reach, NONE, 0, low, high)
            self.refused(NoBounds, reach, (1, 1, 1, 1), 5, low, high)
        for wrong in NO_WHOLES + NO_WIDES:
            for low, high in [(wrong, 5), (5, wrong), (wrong, wrong), (-MOST_WIDE, wrong), (wrong, MOST_WIDE)]:
                self.refused(NoBounds, plan, NONE, (1, 1, 1, 1), low, high)
                self.refused(NoBounds, reach, NONE, 1, low, high)

    def test_wide_ones_and_one_value(self):
        for low, high in [(0, 0), (-MOST_WIDE, MOST_WIDE), (MOST_WIDE, MOST_WIDE), (-MOST_WIDE, -MOST_WIDE), (-1, 0)]:
            self.same(plan(NONE, NONE, low, high), [])
            self.same(plan(NONE, (1, low, low, low), low, high), [low])
            self.same(plan(NONE, (1, high, high, high), low, high), [high])

    def test_no_state_goes_first(self):
        for low, high in NO_BOUNDS + [("", []), (Odd(), Odd())]:
            self.refused(NoState, plan, None, NONE, low, high)
            self.refused(NoState, plan, NONE, None, low, high)
            self.refused(NoState, plan, (1, 1, 1, 2), (1, 2, 1, 1), low, high)
            self.refused(NoState, reach, (1, 1, 1, 2), 3, low, high)


class Plans(PlanCase):

    def test_by_hand(self):
        self.same(plan(NONE, (1, 4, 4, 4), 0, 9), [4])
        self.same(plan(NONE, (2, 7, 3, 4), 0, 9), [3, 4])
        self.same(plan(NONE, (3, 9, 1, 5), 0, 9), [1, 3, 5])
        self.same(plan((1, 4, 4, 4), (2, 10, 4, 6), 0, 9), [6])
        self.same(plan((2, 7, 3, 4), (4, 13, 1, 5), 0, 9), [1, 5])
        self.same(plan((2, 7, 3, 4), (4, 16, 3, 5), 0, 9), [4, 5])
        self.same(plan((2, 10, 0, 10), (3, 15, 0, 10), 0, 9), [5])

    def test_none_more(self):
        for state in STATES:
            self.same(plan(state, state, -5, 5), [])
            self.same(plan(list(state), tuple(state), -5, 5), [])
        self.no_plan((3, 4, 1, 2), (3, 5, 1, 2), -9, 9)
        self.no_plan((2, 8, 4, 4), (2, 8, 3, 5), -9, 9)
        self.no_plan((1, 0, 0, 0), (1, 1, 1, 1), -9, 9)
        # The bounds are of values that are added: here there are none.
        self.same(plan((2, 8, 4, 4), (2, 8, 4, 4), 100, 100), [])

    def test_less(self):
        self.no_plan((1, 0, 0, 0), NONE, -9, 9)
        self.no_plan((2, 8, 4, 4), (1, 4, 4, 4), -9, 9)
        self.no_plan((MOST_COUNT, 0, 0, 0), (1, 0, 0, 0), -9, 9)

    def test_two_hundred_more_and_one_beyond(self):
        for state in [NONE, (1, 5, 5, 5), (7, 35, 5, 5), (MOST_COUNT - 201, 5 * (MOST_COUNT - 201), 5, 5)]:
            for more in [1, 199, 200]:
                goal = (state[0] + more, state[1] + 5 * more, 5, 5)
                self.same(plan(state, goal, 5, 5), [5] * more)
                self.brings(state, goal, -MOST_WIDE, MOST_WIDE)
            self.no_plan(state, (state[0] + 201, state[1] + 5 * 201, 5, 5), 5, 5)
            self.no_plan(state, (state[0] + 201, state[1] + 5 * 201, 5, 5), -MOST_WIDE, MOST_WIDE)
        self.no_plan(NONE, (MOST_COUNT, 0, 0, 0), -9, 9)
        self.brings(NONE, (200, 0, -MOST_WIDE, MOST_WIDE), -MOST_WIDE, MOST_WIDE)

    def test_a_count_of_thirty_one_figures(self):
        state = (MOST_COUNT - 1, 3 * (MOST_COUNT - 1), 3, 3)
        self.same(plan(state, (MOST_COUNT, 3 * MOST_COUNT, 3, 3), 0, 9), [3])
        self.same(plan(state, (MOST_COUNT, 3 * MOST_COUNT + 4, 3, 7), 0, 9), [7])
        self.refused(NoState, plan, state, (MOST_COUNT + 1, 3 * MOST_COUNT + 3, 3, 3), 0, 9)
        full = (MOST_COUNT, 3 * MOST_COUNT, 3, 3)
        self.same(plan(full, full, 0, 9), [])

    def test_bounds_of_one_value(self):
        self.same(plan((2, 7, 3, 4), (5, 16, 3, 4), 3, 3), [3, 3, 3])
        self.no_plan((2, 7, 3, 4), (5, 17, 3, 4), 3, 3)
        self.same(plan((2, 7, 3, 4), (4, 3, -2, 4), -2, -2), [-2, -2])
        self.no_plan((2, 7, 3, 4), (4, 15, 3, 5), 4, 4)
        self.no_plan((2, 7, 3, 4), (4, 15, 3, 4), 9, 9)

    def test_ends_go_only_further_out(self):
        self.no_plan((2, 7, 3, 4), (3, 12, 4, 4), -9, 9)
        self.no_plan((2, 10, 1, 9), (3, 13, 1, 8), -9, 9)
        self.no_plan((2, 10, 1, 9), (3, 15, 2, 9), -9, 9)
        self.no_plan((1, 5, 5, 5), (2, 12, 6, 6), -9, 9)

    def test_new_ends_must_be_within_the_bounds(self):
        self.brings((1, 5, 5, 5), (2, 8, 3, 5), 3, 9)
        self.no_plan((1, 5, 5, 5), (2, 8, 3, 5), 4, 9)
        self.brings((1, 5, 5, 5), (2, 12, 5, 7), 0, 7)
        self.no_plan((1, 5, 5, 5), (2, 12, 5, 7), 0, 6)
        # An old end beyond the bounds is no hindrance.
        self.same(plan((1, 50, 50, 50), (2, 53, 3, 50), 0, 9), [3])
        self.same(plan((2, 0, -50, 50), (4, 9, -50, 50), 4, 5), [4, 5])

    def test_both_ends_by_one_value(self):
        self.no_plan((1, 5, 5, 5), (2, 10, 4, 6), 0, 9)
        self.same(plan((1, 5, 5, 5), (3, 15, 4, 6), 0, 9), [4, 6])
        self.no_plan((1, 5, 5, 5), (3, 14, 4, 6), 0, 9)
        self.no_plan((1, 5, 5, 5), (3, 16, 4, 6), 0, 9)

    def test_totals_at_the_ends_and_one_beyond(self):
        # Five values more, from 3 to 8, 1 and 9 being the ends already.
        state = (4, 20, 1, 9)
        for total in range(20 + 15, 20 + 41):
            self.brings(state, (9, total, 1, 9), 3, 8)
        self.no_plan(state, (9, 20 + 14, 1, 9), 3, 8)
        self.no_plan(state, (9, 20 + 41, 1, 9), 3, 8)
        # Two of the five are the new ends 0 and 12.
        for total in range(20 + 12, 20 + 12 + 37):
            self.brings(state, (9, total, 0, 12), -5, 15)
        self.refused(NoState, plan, state, (9, 11, 0, 12), -5, 15)
        self.no_plan(state, (9, 20 + 11, 0, 12), -5, 15)
        self.no_plan(state, (9, 20 + 12 + 37, 0, 12), -5, 15)

    def test_wide_values(self):
        self.brings((1, 0, 0, 0), (201, 0, -MOST_WIDE, MOST_WIDE), -MOST_WIDE, MOST_WIDE)
        self.same(plan((1, 0, 0, 0), (2, MOST_WIDE, 0, MOST_WIDE), -MOST_WIDE, MOST_WIDE), [MOST_WIDE])
        self.same(plan((1, 0, 0, 0), (201, 200 * MOST_WIDE, 0, MOST_WIDE), -MOST_WIDE, MOST_WIDE), [MOST_WIDE] * 200)
        self.no_plan((1, 0, 0, 0), (201, 200 * MOST_WIDE, 0, MOST_WIDE), -MOST_WIDE, MOST_WIDE - 1)
        self.brings((1, 0, 0, 0), (201, 200 * MOST_WIDE - 1, 0, MOST_WIDE), -MOST_WIDE, MOST_WIDE)

    def test_beside_a_slow_search(self):
        goals = all_states(4, -2, 3)
        found = {True: 0, False: 0}
        for low, high in [(-2, 3), (-1, 1), (0, 0), (1, 3), (-3, -2), (2, 2), (-9, -4)]:
            for state in all_states(2, -1, 2):
                reached = {more: slow_reached(state, more, low, high) for more in range(5)}
                for goal in goals:
                    more = goal[0] - state[0]
                    can = more >= 0 and goal in reached[more]
                    (self.brings if can else self.no_plan)(state, goal, low, high)
                    found[can] += 1
        self.assertGreater(min(found.values()), 500)

    def test_any_values_are_planned_again(self):
        chance = random.Random(101)
        for _ in range(400):
            size = 10 ** chance.choice([0, 1, 3, 30])
            low, high = sorted([chance.randint(1 - size, size - 1), chance.randint(1 - size, size - 1)])
            state = state_of([chance.randint(1 - size, size - 1) for _ in range(chance.choice([0, 1, 2, 9]))])
            many = chance.choice([0, 1, 2, 200])
            values = [chance.choice([low, high, chance.randint(low, high)]) for _ in range(many)]
            self.brings(state, added(state, values), low, high)

    def test_asked_again_and_the_askers_own(self):
        told = plan(NONE, (3, 9, 1, 5), 0, 9)
        told.clear()
        self.same(plan(NONE, (3, 9, 1, 5), 0, 9), [1, 3, 5])
        state, goal = [1, 5, 5, 5], [3, 15, 4, 6]
        told = plan(state, goal, 0, 9)
        self.same((state, goal), ([1, 5, 5, 5], [3, 15, 4, 6]))
        state.clear()
        goal.clear()
        self.same(told, [4, 6])


class Reach(PlanCase):

    def test_by_hand(self):
        self.same(reach((2, 7, 3, 4), 3, -1, 5), [(7, 7), (6, 12), (5, 17), (4, 22)])
        self.same(reach(NONE, 2, 3, 4), [(0, 0), (3, 4), (6, 8)])
        self.same(reach((1, 5, 5, 5), 2, 3, 3), [(5, 5), (8, 8), (11, 11)])

    def test_none_and_two_hundred(self):
        for state in STATES:
            self.same(reach(state, 0, -3, 4), [(state[1], state[1])])
            self.same(reach(list(state), 200, -3, 4),
                      [(state[1] - 3 * more, state[1] + 4 * more) for more in range(201)])
            self.same(reach(state, 200, -MOST_WIDE, MOST_WIDE)[200],
                      (state[1] - 200 * MOST_WIDE, state[1] + 200 * MOST_WIDE))
            self.same(reach(state, 200, 0, 0), [(state[1], state[1])] * 201)

    def test_beside_a_slow_search(self):
        for low, high in [(-2, 3), (0, 0), (1, 3), (-3, -2), (2, 2)]:
            for state in all_states(2, -1, 2):
                told = reach(state, 4, low, high)
                for more in range(5):
                    totals = {goal[1] for goal in slow_reached(state, more, low, high)}
                    self.same(told[more], (min(totals), max(totals)))
                    self.assertEqual(totals, set(range(told[more][0], told[more][1] + 1)))

    def test_asked_again_and_the_askers_own(self):
        told = reach((2, 7, 3, 4), 3, -1, 5)
        told.clear()
        state = [2, 7, 3, 4]
        told = reach(state, 1, -1, 5)
        self.same(state, [2, 7, 3, 4])
        state.clear()
        self.same(told, [(7, 7), (6, 12)])
        self.same(reach((2, 7, 3, 4), 1, -1, 5), told)


if __name__ == "__main__":
    unittest.main()

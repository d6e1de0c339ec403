"""What a bar may become: plans of values that bring a state to a goal, and the totals that can be reached."""

from peakroll.checks import is_list_from, is_whole, is_whole_from, is_wide
from peakroll.errors import NoBounds, NoState

MOST_COUNT = 10 ** 30
MOST_MORE = 200


def is_state(value):
    if not is_list_from(value, 4, 4):
        return False
    count, total, least, greatest = value
    if not (is_whole_from(count, 0, MOST_COUNT) and is_whole(total)):
        return False
    if count == 0:
        return total == 0 and least is None and greatest is None
    if not (is_wide(least) and is_wide(greatest) and least <= greatest):
        return False
    # One value is the least and one the greatest, the others lie between; of a single value all three are alike.
    return least * (count - 1) + greatest <= total <= greatest * (count - 1) + least


def need_state(value):
    if not is_state(value):
        raise NoState("a state is a count, a total, a least and a greatest value that a bar can have")


def need_bounds(low, high):
    if not (is_wide(low) and is_wide(high) and low <= high):
        raise NoBounds("bounds are two wide numbers, the low one no greater than the high one")


def plan(state, goal, low, high):
    """Values from low to high, rising, that bring the state to the goal; None where there are none."""
    need_state(state)
    need_state(goal)
    need_bounds(low, high)
    more = goal[0] - state[0]
    if more == 0:
        return [] if list(state) == list(goal) else None
    if not 1 <= more <= MOST_MORE or not may_widen(state, goal):
        return None
    ends = new_ends(state, goal)
    if not all([low <= end <= high for end in ends]):
        return None
    rest = goal[1] - state[1] - sum(ends)
    others = even_values(more - len(ends), rest, max(low, goal[2]), min(high, goal[3]))
    return None if others is None else sorted(ends + others)


def may_widen(state, goal):
    """Whether the goal's ends are the state's, or further out: values can only be added."""
    return state[0] == 0 or goal[2] <= state[2] <= state[3] <= goal[3]


def new_ends(state, goal):
    """The goal's ends that the state hasn't, so that they must be among the values added."""
    return sorted({end for end in goal[2:] if end not in state[2:]})


def even_values(many, total, low, high):
    """So many values from low to high with that total, as even as can be; None where there are none."""
    if many == 0:
        return [] if total == 0 else None
    if many < 0 or not low * many <= total <= high * many:
        return None
    each, over = divmod(total, many)
    return [each] * (many - over) + [each + 1] * over


def reach(state, many, low, high):
    """The least and the greatest total with none more, one more, up to so many more values."""
    need_state(state)
    need_bounds(low, high)
    return [(state[1] + more * low, state[1] + more * high) for more in range(many + 1)]

"""Promises 18 and 19, and 2, 4 and 6 as they bear on them: shut bars, what they hold, locks written and read."""

import random
import unittest

from peakroll.errors import NoLock, NoMoment, NoNumber, NoRoll, NoText
from peakroll.ladders import Ladder
from peakroll.locks import Locks, read_locks
from tests.helps import (FAR, MOST_NUMBER, MOST_WIDE, NO_NUMBERS, NO_TEXTS, NO_WHOLES, NO_WIDES, SMALL, Case,
                         altered, far_entries, listed, slow_bar, some_entries, tupled)

# Bars of roll 0 begin at 0, 10, 20 ..; of roll 1 at 0, 50, 100 ..; of roll 2 at 0, 100, 200 ..
TENS = Ladder(0, [4, -6], [(0, [5]), (0, [2])])
ROWS = [(1, "a", 5), (12, "b", 7), (55, "c", -1), (120, "d", 3)]

WRITTEN = [
    ("", []),
    ("0/0", [(0, 0)]),
    ("2/-7", [(2, -7)]),
    ("0/-3 0/0 0/2 0/10 1/-20 1/-3 1/0 2/5", [(0, -3), (0, 0), (0, 2), (0, 10), (1, -20), (1, -3), (1, 0), (2, 5)]),
    (f"0/-{MOST_NUMBER} 0/{MOST_NUMBER} 2/-{MOST_NUMBER} 2/{MOST_NUMBER}",
     [(0, -MOST_NUMBER), (0, MOST_NUMBER), (2, -MOST_NUMBER), (2, MOST_NUMBER)]),
]

# Other signs, other ways to write a number, or none.
NO_WORDS = ["", "-", "+1", "-0", "00", "01", "-01", "--1", "1-", "1_0", "1.0", "1e1", "0x1", "a", "None", "1\n", "\n1",
            "\t1", "1\x00", "\u0661", "\u00b2", "\uff11", "\ufeff1", "\u00a01", "\ud800", "1" * 41, "-" + "1" * 41,
            "0" * 41, "1" * 5000, "-" + "1" * 5000, "0" * 5000, f"{10 ** 40}", f"-{10 ** 40}", f"0{MOST_NUMBER}"]

SPOILT = [
    " ", "  ", "/", "//", "0", "0/", "/0", "0//0", "0/0/", "/0/0", "0/0/0", "0-0", "0:0", "0,0", "0 0", "0\\0", "00",
    " 0/0", "0/0 ", "0 /0", "0/ 0", "0/0  0/1", "0/0   0/1", " 0/0 0/1", "0/0 0/1 ", "0/00/1", "0/0,0/1", "0/0, 0/1",
    "0/0;0/1", "0/0\n0/1", "0/0\t0/1", "0/0\u00a00/1", "0/0 \n0/1", "0/0\n", "\n0/0", "\n", "\t", "0/0\r\n", "0/0\x00",
    "\ufeff0/0", "\ufeff", "\x00", "(0, 0)", "[0/0]", "'0/0'", "None", "x", "0/0 x", "x 0/0", "0/0 0", "0 0/0",
    "0/0 /", "0\u20440", "0/0 0/1 0",
    # So written, but no roll of the ladder.
    "3/0", "-1/0", "4/0", "10/0", "0/0 3/0", "0/0 -1/0", "-1/0 0/0", f"{MOST_NUMBER}/0", f"-{MOST_NUMBER}/0",
    # A bar that comes again, or out of order.
    "0/0 0/0", "0/1 0/1", "1/0 1/0", "0/0 0/1 0/1", "0/0 0/1 0/0", "0/0 1/0 0/0", "1/0 0/0", "0/1 0/0", "0/0 0/-1",
    "0/-1 0/-2", "0/10 0/9", "0/2 0/10 0/3", "2/0 1/0 0/0", "0/0 2/0 1/0", "0/0 1/1 1/0", "1/-5 0/5", "0/9 0/10 0/9",
]


def locks_of(ladder, pairs):
    locks = Locks(ladder)
    for roll, number in pairs:
        locks.shut(roll, number)
    return locks


def told_by(locks, moments, numbers):
    return (locks.written(), [locks.held_by(moment) for moment in moments],
            [[locks.is_shut(roll, number) for number in numbers] for roll in range(3)],
            locks.broken(ROWS, []), locks.broken([], ROWS), locks.broken(ROWS, ROWS))


def told(locks):
    return told_by(locks, range(-20, 130, 5), range(-3, 15))


def slow_broken(ladder, pairs, one, other):
    for roll, number in sorted(pairs):
        first, behind = ladder.stretch(roll, number)
        bars = [slow_bar([entry for entry in entries if first <= entry[0] < behind]) for entries in (one, other)]
        if bars[0] != bars[1]:
            return (roll, number)
    return None


class Shut(Case):

    def test_shut_and_opened(self):
        locks = Locks(TENS)
        self.assertIs(locks.is_shut(0, 3), False)
        self.assertIsNone(locks.shut(0, 3))
        self.assertIs(locks.is_shut(0, 3), True)
        for roll, number in [(0, 2), (0, 4), (1, 3), (2, 3), (0, -3), (1, 0)]:
            self.assertIs(locks.is_shut(roll, number), False)
        self.assertIsNone(locks.open_bar(0, 3))
        self.assertIs(locks.is_shut(0, 3), False)
        locks.shut(0, 3)
        self.assertIs(locks.is_shut(0, 3), True)

    def test_shut_twice(self):
        locks = Locks(TENS)
        for roll, number in [(0, 3), (1, -3), (2, MOST_NUMBER), (2, -MOST_NUMBER)]:
            locks.shut(roll, number)
            before = told(locks)
            self.refused(NoLock, locks.shut, roll, number)
            self.refused(NoLock, locks.shut, roll, number)
            self.same(told(locks), before)
            self.assertIs(locks.is_shut(roll, number), True)

    def test_opened_twice(self):
        locks = locks_of(TENS, [(0, 3), (1, -3), (2, MOST_NUMBER)])
        for roll, number in [(0, 3), (1, -3), (2, MOST_NUMBER)]:
            locks.open_bar(roll, number)
            before = told(locks)
            self.refused(NoLock, locks.open_bar, roll, number)
            self.same(told(locks), before)
        self.same(locks.written(), "")

    def test_opened_though_never_shut(self):
        locks = locks_of(TENS, [(0, 3)])
        for roll, number in [(0, 2), (0, -3), (1, 3), (1, 0), (2, 0), (0, MOST_NUMBER)]:
            self.refused(NoLock, locks.open_bar, roll, number)
        self.same(locks.written(), "0/3")

    def test_numbers_of_forty_figures(self):
        for begin, parts, rows in SMALL + FAR:
            ladder = Ladder(begin, parts, rows)
            locks = Locks(ladder)
            for roll in range(ladder.rolls()):
                for number in [MOST_NUMBER, -MOST_NUMBER]:
                    locks.shut(roll, number)
                    self.assertIs(locks.is_shut(roll, number), True)
                    self.assertIs(locks.is_shut(roll, number // 2), False)
            self.same(locks.held_by(0), [])
            self.assertIsNone(locks.broken(far_entries(), []))
            for roll in range(ladder.rolls()):
                locks.open_bar(roll, MOST_NUMBER)
            self.same(locks.written(), " ".join(f"{roll}/-{MOST_NUMBER}" for roll in range(ladder.rolls())))

    def test_no_roll_and_no_number(self):
        locks = locks_of(TENS, [(0, 0), (1, 1)])
        before = told(locks)
        for call in [locks.shut, locks.open_bar, locks.is_shut]:
            for wrong in NO_WHOLES + NO_NUMBERS + [-1, -2, 3, 4]:
                self.refused(NoRoll, call, wrong, 0)
                self.refused(NoRoll, call, wrong, None)
                self.refused(NoRoll, call, wrong, 10 ** 40)
            for wrong in NO_WHOLES + NO_NUMBERS:
                self.refused(NoNumber, call, 0, wrong)
                self.refused(NoNumber, call, 2, wrong)
        self.same(told(locks), before)
        self.refused(NoRoll, Locks(Ladder(0, [1], [])).shut, 1, 0)


class HeldBy(Case):

    def test_the_first_and_the_last_moment(self):
        locks = locks_of(TENS, [(0, 5), (1, 1), (2, 0)])
        wanted = {-1: [], 0: [(2, 0)], 49: [(2, 0)], 50: [(0, 5), (1, 1), (2, 0)], 53: [(0, 5), (1, 1), (2, 0)],
                  54: [(0, 5), (1, 1), (2, 0)], 59: [(0, 5), (1, 1), (2, 0)], 60: [(1, 1), (2, 0)],
                  99: [(1, 1), (2, 0)], 100: []}
        for moment, pairs in wanted.items():
            self.same(locks.held_by(moment), pairs)

    def test_all_ladders_near_and_far(self):
        for seed, (begin, parts, rows) in enumerate(SMALL + FAR):
            chance, ladder = random.Random(seed), Ladder(begin, parts, rows)
            moments = [-MOST_WIDE, MOST_WIDE, begin, 0] + [chance.randint(-40, 40) for _ in range(30)]
            pairs = {(roll, ladder.bar_at(roll, chance.choice(moments))) for roll in range(ladder.rolls())
                     for _ in range(6)}
            locks = locks_of(ladder, pairs)
            for moment in moments:
                wanted = []
                for roll, number in sorted(pairs):
                    first, behind = ladder.stretch(roll, number)
                    wanted += [(roll, number)] if first <= moment < behind else []
                self.same(locks.held_by(moment), wanted)

    def test_at_the_ends_of_each_shut_bar(self):
        for begin, parts, rows in SMALL:
            ladder = Ladder(begin, parts, rows)
            for roll in range(ladder.rolls()):
                for number in [-2, -1, 0, 1, 2]:
                    first, behind = ladder.stretch(roll, number)
                    locks = locks_of(ladder, [(roll, number)])
                    self.same([locks.held_by(moment) for moment in (first - 1, first, behind - 1, behind)],
                              [[], [(roll, number)], [(roll, number)], []])

    def test_opened_it_holds_no_more(self):
        locks = locks_of(TENS, [(0, 5), (1, 1)])
        locks.open_bar(0, 5)
        self.same(locks.held_by(50), [(1, 1)])
        locks.open_bar(1, 1)
        self.same(locks.held_by(50), [])

    def test_no_moment(self):
        for locks in [Locks(TENS), locks_of(TENS, [(0, 0)]), Locks(Ladder(0, [1], []))]:
            for wrong in NO_WHOLES + NO_WIDES:
                self.refused(NoMoment, locks.held_by, wrong)


class Broken(Case):

    def test_none(self):
        for locks in [Locks(TENS), locks_of(TENS, [(0, 3), (1, 5), (2, -1)])]:
            self.assertIsNone(locks.broken(ROWS, []))
            self.assertIsNone(locks.broken([], ROWS))
            self.assertIsNone(locks.broken([], []))
        locks = locks_of(TENS, [(0, 0), (0, 1), (1, 0), (2, 0)])
        self.assertIsNone(locks.broken(ROWS, ROWS[::-1]))
        # What lies in no shut bar may be unlike.
        self.assertIsNone(locks.broken(ROWS, ROWS[:3] + [(120, "d", 4), (-1, "e", 1), (100, "f", 2)]))

    def test_one(self):
        self.same(locks_of(TENS, [(0, 0)]).broken(ROWS, ROWS[1:]), (0, 0))
        self.same(locks_of(TENS, [(0, 0)]).broken(ROWS[1:], ROWS), (0, 0))
        self.same(locks_of(TENS, [(0, 0)]).broken(ROWS, [(1, "a", 6)] + ROWS[1:]), (0, 0))
        self.same(locks_of(TENS, [(0, 0)]).broken(ROWS, [(2, "a", 5)] + ROWS[1:]), (0, 0))
        self.same(locks_of(TENS, [(1, 0)]).broken(ROWS, ROWS + [(49, "e", 0)]), (1, 0))
        self.same(locks_of(TENS, [(2, 0)]).broken(ROWS, ROWS + [(99, "e", 0)]), (2, 0))
        self.assertIsNone(locks_of(TENS, [(1, 0)]).broken(ROWS, ROWS + [(50, "e", 0)]))
        self.assertIsNone(locks_of(TENS, [(2, 0)]).broken(ROWS, ROWS + [(100, "e", 0)]))

    def test_the_first_of_several(self):
        locks = locks_of(TENS, [(2, 0), (1, 1), (1, 0), (0, 5), (0, 1), (0, 0), (2, 1), (1, -9), (0, -9)])
        self.same(locks.broken(ROWS, []), (0, 0))
        locks.open_bar(0, 0)
        self.same(locks.broken(ROWS, []), (0, 1))
        locks.open_bar(0, 1)
        self.same(locks.broken(ROWS, []), (0, 5))
        locks.open_bar(0, 5)
        self.same(locks.broken(ROWS, []), (1, 0))
        locks.open_bar(1, 0)
        self.same(locks.broken(ROWS, []), (1, 1))
        locks.open_bar(1, 1)
        self.same(locks.broken(ROWS, []), (2, 0))
        locks.open_bar(2, 0)
        self.same(locks.broken(ROWS, []), (2, 1))
        locks.open_bar(2, 1)
        self.assertIsNone(locks.broken(ROWS, []))

    def test_a_lesser_roll_goes_ahead_of_a_lesser_number(self):
        self.same(locks_of(TENS, [(0, 12), (1, -1)]).broken([(120, "a", 1), (-1, "b", 1)], []), (0, 12))
        self.same(locks_of(TENS, [(0, 12), (0, -1)]).broken([(120, "a", 1), (-1, "b", 1)], []), (0, -1))

    def test_bars_that_are_alike_though_entries_are_not(self):
        one = [(0, "x", 0), (1, "a", 5), (2, "b", 7), (3, "y", 9)]
        other = [(0, "x", 0), (2, "a", 5), (1, "b", 7), (3, "y", 9)]
        self.assertIsNone(locks_of(TENS, [(0, 0), (1, 0), (2, 0)]).broken(one, other))
        other[1] = (2, "a", 4)
        self.same(locks_of(TENS, [(0, 0), (1, 0), (2, 0)]).broken(one, other), (0, 0))

    def test_altered_lists_beside_the_slow_way(self):
        seen = set()
        for seed, (begin, parts, rows) in enumerate(SMALL + FAR):
            chance, ladder = random.Random(seed), Ladder(begin, parts, rows)
            for low, high in [(-9, 9), (-60, 60), (-MOST_WIDE, MOST_WIDE)]:
                for many in [1, 3, 20]:
                    one = some_entries(chance.random(), many, low, high)
                    other = altered(chance, one, low, high)
                    pairs = {(roll, ladder.bar_at(roll, entry[0])) for roll in range(ladder.rolls())
                             for entry in chance.sample(one + other, min(3, len(one + other)))}
                    pairs = set(chance.sample(sorted(pairs), min(len(pairs), chance.randint(0, 4))))
                    wanted = slow_broken(ladder, pairs, one, other)
                    self.same(locks_of(ladder, pairs).broken(one, other), wanted)
                    seen.add(wanted[0] if wanted else None)
        self.assertGreater(len(seen), 3)

    def test_lists_for_tuples_and_tuples_for_lists(self):
        locks = locks_of(TENS, [(1, 1)])
        for change in [listed, tupled, lambda rows: tuple(listed(rows))]:
            self.same(locks.broken(change(ROWS), change(ROWS[:2])), (1, 1))
            self.assertIsNone(locks.broken(change(ROWS), ROWS))


class Texts(Case):

    def test_written(self):
        chance = random.Random(91)
        for text, pairs in WRITTEN:
            for handed in [pairs, pairs[::-1], chance.sample(pairs, len(pairs))]:
                self.same(locks_of(TENS, handed).written(), text)

    def test_written_of_opened_ones(self):
        locks = locks_of(TENS, [(1, 3), (0, 2), (0, 10), (0, -1)])
        locks.open_bar(0, 2)
        self.same(locks.written(), "0/-1 0/10 1/3")

    def test_read(self):
        for text, pairs in WRITTEN:
            locks = read_locks(TENS, text)
            self.assertIs(type(locks), Locks)
            self.same(locks.written(), text)
            self.same(told(locks), told(locks_of(TENS, pairs)))
            for roll, number in pairs:
                self.assertIs(locks.is_shut(roll, number), True)

    def test_read_locks_may_be_shut_and_opened(self):
        locks = read_locks(TENS, "0/3 1/0")
        self.refused(NoLock, locks.shut, 0, 3)
        locks.open_bar(0, 3)
        locks.shut(2, -1)
        self.same(locks.written(), "1/0 2/-1")
        self.same(read_locks(TENS, "0/3 1/0").written(), "0/3 1/0")

    def test_read_of_each_ladders_rolls(self):
        for begin, parts, rows in SMALL + FAR:
            ladder = Ladder(begin, parts, rows)
            for roll in range(5):
                text = f"{roll}/{roll - 2}"
                if roll < ladder.rolls():
                    self.same(read_locks(ladder, text).held_by(ladder.begin()),
                              [(roll, roll - 2)] if ladder.bar_at(roll, ladder.begin()) == roll - 2 else [])
                else:
                    self.refused(NoText, read_locks, ladder, text)
            self.refused(NoText, read_locks, ladder, "5/0")

    def test_spoilt(self):
        for text in SPOILT:
            self.refused(NoText, read_locks, TENS, text)

    def test_what_is_no_number(self):
        for word in NO_WORDS:
            for text in [f"{word}/0", f"0/{word}", f"0/-5 {word}/0", f"0/-5 0/{word}", f"0/{word} 2/0"]:
                self.refused(NoText, read_locks, TENS, text)

    def test_the_spoilt_ones_without_what_spoils_them(self):
        for text in ["0/0", "0/0 0/1", "0/-2 0/-1", "0/9 0/10", "0/0 1/0 2/0", "0/0 1/0 1/1", "1/0", "0/5 1/-5",
                     f"0/{MOST_NUMBER}", f"0/-{MOST_NUMBER}"]:
            self.same(read_locks(TENS, text).written(), text)

    def test_no_text(self):
        for wrong in NO_TEXTS + [["0/0"], b"0/0", [(0, 0)], Locks(TENS)]:
            self.refused(NoText, read_locks, TENS, wrong)

    def test_any_locks_written_and_read(self):
        for seed, (begin, parts, rows) in enumerate(SMALL + FAR):
            chance, ladder = random.Random(seed), Ladder(begin, parts, rows)
            pairs = {(chance.randrange(ladder.rolls()), chance.randint(-10 ** size, 10 ** size))
                     for size in [1, 1, 1, 2, 2, 20, 39]}
            text = locks_of(ladder, pairs).written()
            self.same(text, " ".join(f"{roll}/{number}" for roll, number in sorted(pairs)))
            self.same(read_locks(ladder, text).written(), text)


class Copied(Case):

    def test_just_like_these(self):
        for pairs in [[], [(0, 0)], [(1, 1), (0, 5), (2, -3)]]:
            locks = locks_of(TENS, pairs)
            other = locks.copied()
            self.assertIs(type(other), Locks)
            self.assertIsNot(other, locks)
            self.same(told(other), told(locks))

    def test_done_to_the_one_the_other_does_not_change(self):
        for deed in [lambda locks: locks.shut(0, 1), lambda locks: locks.open_bar(0, 5)]:
            for turn in [0, 1]:
                pair = [locks_of(TENS, [(0, 5), (1, 0)])]
                pair.append(pair[0].copied())
                before = told(pair[0])
                deed(pair[turn])
                self.assertNotEqual(told(pair[turn]), before)
                self.same(told(pair[1 - turn]), before)


class Own(Case):

    def test_what_is_handed_in_stays_and_may_change_behind(self):
        one, other = listed(ROWS), listed(ROWS[:2])
        locks = locks_of(TENS, [(1, 1)])
        pair = locks.broken(one, other)
        self.same((one, other), (listed(ROWS), listed(ROWS[:2])))
        for row in one + other:
            row.clear()
        one.clear()
        other.clear()
        self.same(pair, (1, 1))
        self.same(locks.broken(ROWS, ROWS[:2]), (1, 1))

    def test_what_is_told_is_its_askers_own(self):
        locks = locks_of(TENS, [(0, 5), (1, 1)])
        before = told(locks)
        pairs = locks.held_by(50)
        pairs.reverse()
        pairs.clear()
        locks.held_by(0).append((0, 0))
        self.same(told(locks), before)

    def test_asking_changes_nothing(self):
        locks = locks_of(TENS, [(0, 5), (1, 1)])
        before = told(locks)
        self.same(told(locks), before)
        self.assertIs(locks.is_shut(2, 7), False)
        self.same(locks.written(), "0/5 1/1")

    def test_two_side_by_side(self):
        one, other = Locks(TENS), Locks(TENS)
        one.shut(0, 0)
        self.same(other.written(), "")
        self.assertIs(other.is_shut(0, 0), False)


if __name__ == "__main__":
    unittest.main()

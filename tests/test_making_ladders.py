"""Promises 5 and 2: what a ladder is made of, and what is none."""

import unittest

from peakroll.errors import NoLadder
from peakroll.ladders import Ladder
from tests.helps import BILLION, MOST_WIDE, NO_LISTS, NO_WHOLES, NO_WIDES, SMALL, Case


class Made(Case):

    def made(self, begin, parts, rows):
        ladder = Ladder(begin, parts, rows)
        self.assertEqual(ladder.begin(), begin)
        self.assertEqual(ladder.parts(), list(parts))
        self.assertEqual(ladder.rows(), [(row[0], tuple(row[1])) for row in rows])
        self.assertEqual(ladder.rolls(), len(rows) + 1)
        self.assertIs(type(ladder.parts()), list)
        self.assertIs(type(ladder.rows()), list)
        for row in ladder.rows():
            self.assertIs(type(row), tuple)
            self.assertIs(type(row[1]), tuple)

    def test_tells_what_it_was_made_of(self):
        for begin, parts, rows in SMALL:
            self.made(begin, parts, rows)

    def test_the_edges_are_ladders(self):
        for begin in [0, MOST_WIDE, -MOST_WIDE]:
            self.made(begin, [1], [])
            self.made(0, [1], [(begin, [1])])
        for parts in [[1], [BILLION], [1, -BILLION], [BILLION, BILLION, -1], [1] * 12, [1] + [-1] * 11]:
            self.made(0, parts, [])
        for sizes in [[1], [1000], [1] * 12, [1000] * 12]:
            self.made(0, [1], [(0, sizes)])
            self.made(0, [1], [(0, sizes)] * 4)

    def test_lists_and_tuples_are_alike(self):
        for begin, parts, rows in SMALL:
            listed = [[start, list(sizes)] for start, sizes in rows]
            tupled = tuple((start, tuple(sizes)) for start, sizes in rows)
            mixed = [(start, list(sizes)) for start, sizes in rows]
            told = [Ladder(begin, kind(parts), these) for kind in (list, tuple) for these in (listed, tupled, mixed)]
            for ladder in told:
                self.assertEqual(ladder.parts(), parts)
                self.assertEqual(ladder.rows(), list(tupled))
                self.assertEqual(ladder.stretch(len(rows), -3), told[0].stretch(len(rows), -3))


class Refused(Case):

    def none(self, begin, parts, rows):
        self.refused(NoLadder, Ladder, begin, parts, rows)

    def test_the_beginning(self):
        for begin in NO_WHOLES + NO_WIDES:
            self.none(begin, [1], [])

    def test_the_parts(self):
        for parts in NO_LISTS + [[], (), [1] * 13, [1] * 1000, [-1], [-1, 1], [0], [0, 1], [1, 0], [1, -1, 0], [[1]],
                                 ([1], 1), [(1, 1)]]:
            self.none(0, parts, [])
        for part in NO_WHOLES + NO_WIDES + [BILLION + 1, -BILLION - 1]:
            self.none(0, [part], [])
            self.none(0, [1, part], [])
            self.none(0, (1, 1, part, 1), [])

    def test_the_rows(self):
        row = (0, [1])
        for rows in NO_LISTS + [[row] * 5, [row] * 1000, [()], [[]], [(0,)], [(0, [1], [1])], [[0, [1], None]],
                                row, [[1]], [[0, 1]], [{0: 0, 1: [1]}]]:
            self.none(0, [1], rows)
        for wrong in NO_LISTS:
            self.none(0, [1], [wrong])
            self.none(0, [1], [row, wrong])

    def test_the_beginnings_of_rows(self):
        for begin in NO_WHOLES + NO_WIDES:
            self.none(0, [1], [(begin, [1])])
            self.none(0, [1], [(0, [1]), [begin, [1]]])

    def test_the_sizes(self):
        for sizes in NO_LISTS + [[], (), [1] * 13, [0], [1, 0], [-1], [1001], [1, 1, 1001], [[1]]]:
            self.none(0, [1], [(0, sizes)])
            self.none(0, [1], [(0, [1]), (0, [2]), (0, [3]), (0, sizes)])
        for size in NO_WHOLES + NO_WIDES:
            self.none(0, [1], [(0, [size])])
            self.none(0, [1], [(0, [1, size])])


class Own(Case):

    def test_what_is_handed_in_stays_as_it_was(self):
        parts, sizes = [2, -1], [3, 1]
        rows = [[1, sizes]]
        ladder = Ladder(0, parts, rows)
        ladder.parts(), ladder.rows(), ladder.bar_at(1, 50), ladder.stretch(1, -9)
        self.assertEqual((parts, rows), ([2, -1], [[1, [3, 1]]]))
        wrong = [2, -1, 0]
        self.none_of(wrong)
        self.assertEqual(wrong, [2, -1, 0])

    def none_of(self, parts):
        self.refused(NoLadder, Ladder, 0, parts, [])

    def told_by(self, ladder):
        asked = range(-20, 20)
        return (ladder.begin(), ladder.parts(), ladder.rows(), ladder.rolls(),
                [ladder.bar_at(roll, at) for roll in range(ladder.rolls()) for at in asked],
                [ladder.stretch(roll, at) for roll in range(ladder.rolls()) for at in asked],
                [ladder.lesser(roll, at) for roll in range(1, ladder.rolls()) for at in asked],
                [ladder.greater(roll, at) for roll in range(ladder.rolls() - 1) for at in asked],
                [ladder.is_open(at) for at in asked])

    def test_changed_behind_the_call(self):
        parts, sizes, pair = [2, -1], [3, 1], [-1, [2]]
        rows = [(1, sizes), pair]
        ladder = Ladder(4, parts, rows)
        before = self.told_by(ladder)
        parts[0] = 7
        parts.append(5)
        sizes[0] = 9
        sizes.append(1)
        pair[0] = 6
        pair[1] = [5]
        rows.pop()
        self.assertEqual(self.told_by(ladder), before)
        rows.clear()
        parts.clear()
        self.assertEqual(self.told_by(ladder), before)
        self.assertEqual(ladder.parts(), [2, -1])
        self.assertEqual(ladder.rows(), [(1, (3, 1)), (-1, (2,))])

    def test_what_is_told_is_its_askers_own(self):
        ladder = Ladder(4, [2, -1], [(1, [3, 1]), (-1, [2])])
        before = self.told_by(ladder)
        parts, rows = ladder.parts(), ladder.rows()
        parts[0] = 7
        parts.append(8)
        rows[0] = (0, (1,))
        rows.pop()
        self.assertEqual(self.told_by(ladder), before)
        self.assertEqual(self.told_by(ladder), before)

    def test_two_ladders_side_by_side(self):
        parts, rows = [2, -1], [(1, [3, 1])]
        one = Ladder(4, parts, rows)
        before = self.told_by(one)
        parts.append(6)
        rows.append((0, [2]))
        other = Ladder(5, parts, rows)
        behind = self.told_by(other)
        self.assertNotEqual(before, behind)
        one.parts().clear()
        other.rows().clear()
        self.assertEqual(self.told_by(one), before)
        self.assertEqual(self.told_by(other), behind)

    def test_a_refused_call_changes_nothing(self):
        ladder = Ladder(4, [2, -1], [(1, [3, 1]), (-1, [2])])
        before = self.told_by(ladder)
        calls = [(ladder.bar_at, 0, None), (ladder.bar_at, 9, 0), (ladder.stretch, 0, None), (ladder.lesser, 0, 0),
                 (ladder.greater, 2, 0), (ladder.is_open, None), (ladder.__init__, 0, [1], [None]),
                 (ladder.__init__, 0, [0], []), (ladder.__init__, None, [1], [])]
        for call, *things in calls:
            with self.assertRaises(ValueError):
                call(*things)
        self.assertEqual(self.told_by(ladder), before)


if __name__ == "__main__":
    unittest.main()

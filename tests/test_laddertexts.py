"""Promise 7: ladders written and read."""

import unittest

from peakroll.errors import NoText
from peakroll.ladders import Ladder
from peakroll.laddertexts import read_ladder, write_ladder
from tests.helps import MOST_WIDE, NO_WHOLES, SMALL, Case

WRITTEN = [
    ("0: 1", (0, [1], [])),
    ("-5: 10 -3 4", (-5, [10, -3, 4], [])),
    ("7: 2 -1; 0: 3", (7, [2, -1], [(0, (3,))])),
    ("0: 1000000000 -1000000000; -2: 1 1000; 3: 12; 0: 1; -1: 2 3",
     (0, [1000000000, -1000000000], [(-2, (1, 1000)), (3, (12,)), (0, (1,)), (-1, (2, 3))])),
    (f"{MOST_WIDE}: 1; -{MOST_WIDE}: 1", (MOST_WIDE, [1], [(-MOST_WIDE, (1,))])),
    ("1: 1 1 1 1 1 1 1 1 1 1 1 -10; 10: 1 2 3 4 5 6 7 8 9 10 11 12",
     (1, [1] * 11 + [-10], [(10, tuple(range(1, 13)))])),
]

# A good text with one thing about it wrong.
SPOILT = [
    "", " ", "0", "0:", ":", ": 1", "0: ", "0 1", "0:1", "0:  1", " 0: 1", "0 : 1", "0: 1 ", "0: 1  2", "0:\t1",
    "0: 1\t2", "\t0: 1", "0: 1\n", "\n0: 1", "0: 1\n2", "0: 1\r\n", "0: 1\x00", "\ufeff0: 1", "0: 1\u00a02",
    "+0: 1", "0: +1", "-0: 1", "0: 1 -0", "00: 1", "01: 1", "0: 01", "-01: 1", "0: 1 -01", "0: 1_0", "1_0: 1",
    "0: 1; +1: 1", "0: 1; -0: 1", "0: 1; 01: 1", "0: 1; 0: 01", "0: 1; 0: 1_0", "0: 1; 0: +1", "--1: 1", "0: 1 --1",
    "-: 1", "0: -", "0: 1 -", "- 1: 1", "0: 1 - 1", "1-: 1", "0: 1-",
    "\u0661: 1", "0: \u0661", "0: \u00b2", "\uff10: 1", "0: 1; \u0660: 1", "0: 1; 0: \u0967",
    "0; 1", "0, 1", "0: 1, 0: 1", "0: 1: 0; 1", "0: 1;0: 1", "0: 1 ;0: 1", "0: 1 ; 0: 1", "0: 1;  0: 1", "0: 1; 0:1",
    "0: 1; 0:  1", "0: 1; 0 1", "0: 1; 0 : 1", "0: 1; 0: 1 ", "0: 1 0: 1", "0: 1: 1", "0:: 1", "0: 1;; 0: 1",
    "0: 1;\n0: 1", "0: 1;\t0: 1", "0: 1; 0;", "0: 1; 0: 1;", "0: 1; 0: 1; ", "0: 1;", "0: 1; ", "; 0: 1",
    "0: 1; ; 0: 1",
    "0: 1; 0: 1 x", "0: 1 x", "x0: 1", "0: 1; 0: 1\n", "0: 1.", "0: 1.0", "0: 1e1", "0: 0x1", "0: 1 None", "a: b",
    "(0: 1)", "'0: 1'",
]

# So written, but of no ladder.
NO_LADDERS = [
    "0: 0", "0: -1", "0: -1 1", "0: 1 0", "0: 1000000001", "0: 1 -1000000001", "0: 1 1 1 1 1 1 1 1 1 1 1 1 1",
    f"{MOST_WIDE + 1}: 1", f"-{MOST_WIDE + 1}: 1", f"0: 1; {MOST_WIDE + 1}: 1", f"0: 1; -{MOST_WIDE + 1}: 1",
    "0: 1; 0: 0", "0: 1; 0: -1", "0: 1; 0: 1001", "0: 1; 0: 1 0", "0: 1; 0: 1 1 1 1 1 1 1 1 1 1 1 1 1",
    "0: 1; 0: 1; 0: 1; 0: 1; 0: 1; 0: 1", "0: 1; 0:", "0:; 0: 1",
    "1" * 5000 + ": 1", "0: " + "1" * 5000, "0: 1; -" + "1" * 5000 + ": 1", "0: 1; 0: " + "1" * 5000,
    "0: " + "0" * 5000, "0:" + " 1" * 5000, "0: 1" + "; 0: 1" * 5000,
]


def told_by(ladder):
    return (ladder.begin(), ladder.parts(), ladder.rows())


class Written(Case):

    def test_written(self):
        for text, (begin, parts, rows) in WRITTEN:
            self.assertEqual(write_ladder(Ladder(begin, parts, rows)), text)

    def test_writing_changes_nothing(self):
        ladder = Ladder(7, [2, -1], [(0, [3])])
        before = told_by(ladder)
        self.assertEqual(write_ladder(ladder), write_ladder(ladder))
        self.assertEqual(told_by(ladder), before)


class Read(Case):

    def test_read(self):
        for text, told in WRITTEN:
            ladder = read_ladder(text)
            self.assertIsInstance(ladder, Ladder)
            self.assertEqual(told_by(ladder), told)
            self.assertEqual(ladder.rolls(), len(told[2]) + 1)

    def test_read_back(self):
        for begin, parts, rows in SMALL:
            ladder = Ladder(begin, parts, rows)
            again = read_ladder(write_ladder(ladder))
            self.assertEqual(told_by(again), told_by(ladder))
            for roll in range(ladder.rolls()):
                for number in range(-9, 9):
                    self.assertEqual(again.stretch(roll, number), ladder.stretch(roll, number))
                    self.assertEqual(again.is_open(number), ladder.is_open(number))

    def test_two_read_ladders_are_apart(self):
        one, other = read_ladder("7: 2 -1; 0: 3"), read_ladder("7: 2 -1; 0: 3")
        one.parts().append(1)
        one.rows().clear()
        self.assertEqual(told_by(one), told_by(other))


class NotRead(Case):

    def test_spoilt_texts(self):
        for text in SPOILT:
            with self.subTest(text=text):
                self.refused(NoText, read_ladder, text)

    def test_texts_of_no_ladder(self):
        for text in NO_LADDERS:
            with self.subTest(text=text[:60]):
                self.refused(NoText, read_ladder, text)

    def test_one_sign_more_less_or_other(self):
        """Each neighbour of a good text is refused, or is itself what its ladder is written as."""
        for text, _ in WRITTEN[:4]:
            for at in range(len(text) + 1):
                near = [text[:at] + text[at + 1:]]
                for sign in " \t\n:;+-_,.019x\u0661\u00b2":
                    near += [text[:at] + sign + text[at:], text[:at] + sign + text[at + 1:]]
                for other in near:
                    self.read_just_what_is_written(other)

    def read_just_what_is_written(self, text):
        try:
            ladder = read_ladder(text)
        except NoText:
            return
        self.assertEqual(write_ladder(ladder), text)

    def test_what_is_no_text(self):
        things = [["0: 1"], ("0: 1",), b"0: 1", bytearray(b"0: 1"), {"0: 1": 1}, {"0: 1"}, Ladder(0, [1], []), 0, 1,
                  10 ** 5000]
        for thing in things + [thing for thing in NO_WHOLES if not isinstance(thing, str)]:
            self.refused(NoText, read_ladder, thing)


if __name__ == "__main__":
    unittest.main()

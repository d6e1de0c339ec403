"""Promise 10, and 2 as it bears on it: entries written and read, bars written."""

import unittest

from peakroll.bars import bar_of, empty
from peakroll.entrytexts import read_entries, write_bar, write_entries
from peakroll.errors import NoText
from tests.helps import (KEY_SIGNS, MOST_WIDE, NO_KEYS, NO_WHOLES, NO_WIDES, Case, far_entries, listed, some_entries,
                         tupled)

WRITTEN = [
    ("", []),
    ("0/a/0", [(0, "a", 0)]),
    ("-5/abcdefgh/-6", [(-5, "abcdefgh", -6)]),
    ("7/0/1 7/a/2 -3/zz9/10", [(7, "0", 1), (7, "a", 2), (-3, "zz9", 10)]),
    # A key may come again, and so may a whole entry; they stay as they stood.
    ("9/a/1 1/a/2 9/a/1 9/a/0", [(9, "a", 1), (1, "a", 2), (9, "a", 1), (9, "a", 0)]),
    ("1/01234567/100 2/00/-10 3/007/20", [(1, "01234567", 100), (2, "00", -10), (3, "007", 20)]),
    (f"{MOST_WIDE}/k/-{MOST_WIDE} -{MOST_WIDE}/k/{MOST_WIDE}",
     [(MOST_WIDE, "k", -MOST_WIDE), (-MOST_WIDE, "k", MOST_WIDE)]),
]

# What writes no wide number: other signs, other ways of writing one, more than thirty figures.
NO_NUMBER_WORDS = ["", "-", "+", "+1", "-0", "+0", "00", "01", "-01", "007", "--1", "-+1", "1-", "1_0", "_1", "1.",
                   "1.0", "1e1", "0x1", "0b1", "1,0", "a", "x1", "1x", "None", "True", "1\n", "\n1", "\t1", "1\t",
                   "1\r", "1\x00", "\x00", "1\x0b", "\u0661", "\u00b2", "\u2460", "\uff11", "\u0967", "-\u0661",
                   "\u22121", "\ufeff1", "1\u00a0", "\u00a01", "1\u2003", "\ud800", "(1)", "'1'", "1" * 31,
                   "-" + "1" * 31, "0" * 31, "1" * 5000, "-" + "1" * 5000, "0" * 5000,
                   f"{10 ** 30}", f"-{10 ** 30}", f"0{MOST_WIDE}"]

# Blanks and strokes that are missing, too many or others.
SPOILT = [
    " ", "  ", "/", "//", "///", "a", "0", "0/a", "0/a/", "/a/0", "a/0", "0//0", "0/0", "//0", "0//", "0/a/0/",
    "/0/a/0", "0/a/0/0", "0/a//0", "0//a/0", "0/a/b/0", "0/a/0/a/0", " 0/a/0", "0/a/0 ", "0 /a/0", "0/ a/0", "0/a /0",
    "0/a/ 0", "0/a/0  0/b/0", "0/a/0   0/b/0", " 0/a/0 0/b/0", "0/a/0 0/b/0 ", "0/a/00/b/0", "0/a/0,0/b/0",
    "0/a/0, 0/b/0", "0/a/0;0/b/0", "0/a/0\n0/b/0", "0/a/0\t0/b/0", "0/a/0\u00a00/b/0", "0/a/0\u20030/b/0",
    "0/a/0 \n0/b/0", "0/a/0\n", "\n0/a/0", "\n", "\t", "0/a/0\r\n", "0/a/0\x00", "\ufeff0/a/0", "\ufeff", "\x00",
    "0\\a\\0", "0:a:0", "0|a|0", "0-a-0", "0 a 0", "0,a,0", "0\u2044a\u20440", "0\uff0fa\uff0f0", "0/a 0",
    "(0, 'a', 0)", "[0/a/0]", "'0/a/0'", "0/'a'/0", "None", "[]", "a/0/0", "0/a/a", "0/a/0 x", "x 0/a/0", "0/a/0 0",
    "0 0/a/0", "0/a/0 /", "0/a/0 0/b", "0/a 0/b/0",
]


class Written(Case):

    def test_written(self):
        for text, entries in WRITTEN:
            self.same(write_entries(entries), text)

    def test_lists_for_tuples_and_tuples_for_lists(self):
        for text, entries in WRITTEN:
            for handed in [listed(entries), tupled(entries), tuple(listed(entries)), list(tupled(entries))]:
                self.same(write_entries(handed), text)

    def test_as_they_stand(self):
        entries = some_entries(31, 20, -3, 3)
        words = write_entries(entries).split(" ")
        self.assertEqual(len(words), 20)
        for word, entry in zip(words, entries):
            self.same(word, write_entries([entry]))
        self.assertEqual(write_entries(entries[::-1]), " ".join(words[::-1]))

    def test_writing_changes_nothing(self):
        entries = listed(WRITTEN[3][1])
        self.assertEqual(write_entries(entries), write_entries(entries))
        self.same(entries, listed(WRITTEN[3][1]))


class Read(Case):

    def test_read(self):
        for text, entries in WRITTEN:
            self.same(read_entries(text), entries)

    def test_read_back(self):
        for entries in [some_entries(32, 60, -40, 40), some_entries(33, 1, 0, 9), far_entries(),
                        some_entries(34, 60, -10 ** 29, 10 ** 29)]:
            self.same(read_entries(write_entries(entries)), entries)

    def test_each_sign_of_a_key(self):
        for sign in KEY_SIGNS:
            for key in [sign, "a" + sign, sign * 8]:
                self.same(read_entries(f"1/{key}/2"), [(1, key, 2)])

    def test_keys_of_one_to_eight_signs(self):
        for many in range(1, 9):
            self.same(read_entries(f"1/{'k' * many}/2"), [(1, "k" * many, 2)])

    def test_numbers_of_one_to_thirty_figures(self):
        for many in range(1, 31):
            for number in [int("9" * many), -int("9" * many), 10 ** (many - 1), -10 ** (many - 1)]:
                self.same(read_entries(f"{number}/k/0 0/k/{number}"), [(number, "k", 0), (0, "k", number)])

    def test_what_is_told_is_its_askers_own(self):
        text = WRITTEN[3][0]
        told = read_entries(text)
        told.pop()
        told[0] = (99, "x", 99)
        self.same(read_entries(text), WRITTEN[3][1])
        read_entries("").append((1, "a", 1))
        self.same(read_entries(""), [])


class NotRead(Case):

    def none(self, text):
        with self.subTest(text=text[:60]):
            self.refused(NoText, read_entries, text)

    def test_spoilt_texts(self):
        for text in SPOILT:
            self.none(text)

    def test_no_moment(self):
        for word in NO_NUMBER_WORDS:
            self.none(f"{word}/a/0")
            self.none(f"0/a/0 {word}/b/0")
            self.none(f"{word}/a/0 0/b/0")

    def test_no_value(self):
        for word in NO_NUMBER_WORDS:
            self.none(f"0/a/{word}")
            self.none(f"0/a/0 0/b/{word}")
            self.none(f"0/a/{word} 0/b/0")

    def test_no_key(self):
        for key in NO_KEYS + [" ", "a b", " a", "a ", "/", "a/b", "'a'"]:
            self.none(f"0/{key}/0")
            self.none(f"0/a/0 0/{key}/0")
            self.none(f"0/{key}/0 0/a/0")

    def test_one_sign_more_less_or_other(self):
        """Each neighbour of a good text is refused, or is itself what its entries are written as."""
        for text, _ in WRITTEN:
            for at in range(len(text) + 1):
                near = [text[:at] + text[at + 1:]]
                for sign in " \t\n/\\:+-_,.019azAZ\u0661\u00b2\u00a0":
                    near += [text[:at] + sign + text[at:], text[:at] + sign + text[at + 1:]]
                for other in near:
                    self.read_just_what_is_written(other)

    def read_just_what_is_written(self, text):
        try:
            entries = read_entries(text)
        except NoText:
            return
        self.assertEqual(write_entries(entries), text)
        for moment, key, value in entries:
            self.assertTrue(abs(moment) <= MOST_WIDE and abs(value) <= MOST_WIDE)
            self.assertTrue(1 <= len(key) <= 8 and set(key) <= set(KEY_SIGNS))

    def test_what_is_no_text(self):
        things = [["0/a/0"], ("0/a/0",), b"0/a/0", bytearray(b"0/a/0"), b"", {"0/a/0": 1}, {"0/a/0"}, [(0, "a", 0)],
                  (0, "a", 0), [], (), 0, 1]
        for thing in things + NO_WIDES + [thing for thing in NO_WHOLES if not isinstance(thing, str)]:
            self.refused(NoText, read_entries, thing)


class BarsWritten(Case):

    def test_of_none(self):
        self.same(write_bar(empty()), "0")
        self.same(write_bar(bar_of([])), "0")
        self.same(write_bar(list(empty())), "0")

    def test_by_hand(self):
        self.same(write_bar((1, -6, -6, -6, (-5, "a", -6), (-5, "a", -6))), "1 -6 -6 -6 -5/a/-6 -5/a/-6")
        self.same(write_bar((3, 0, -4, 4, (1, "zz", 0), (1, "zzz", 4))), "3 0 -4 4 1/zz/0 1/zzz/4")
        # A bar of values that are all 0 is one of some entries all the same.
        self.same(write_bar(bar_of([(0, "0", 0)])), "1 0 0 0 0/0/0 0/0/0")

    def test_of_entries(self):
        self.same(write_bar(bar_of([(7, "b", 3), (-2, "z9", -4), (7, "a", 10)])), "3 9 -4 10 -2/z9/-4 7/b/3")

    def test_thirty_figures_either_way(self):
        rows = [(MOST_WIDE, "k", MOST_WIDE), (-MOST_WIDE, "m", MOST_WIDE)]
        self.same(write_bar(bar_of(rows)), f"2 {2 * MOST_WIDE} {MOST_WIDE} {MOST_WIDE} -{MOST_WIDE}/m/{MOST_WIDE} "
                                           f"{MOST_WIDE}/k/{MOST_WIDE}")

    def test_lists_for_tuples(self):
        for entries in [[(3, "a", 4)], far_entries(), some_entries(35, 60, 0, 9)]:
            bar = bar_of(entries)
            handed = listed(bar)
            self.same(write_bar(handed), write_bar(bar))
            self.same(write_bar(list(bar)), write_bar(bar))
            self.same(handed, listed(bar))


if __name__ == "__main__":
    unittest.main()

"""Promise 25, and 2 and 3 as they bear on it: rows of words."""

import random
import unittest

from peakroll.deeds import words_of
from peakroll.errors import NoRow
from tests.helps import (KEY_SIGNS, MOST_NUMBER, MOST_WIDE, NO_KEYS, NO_LISTS, NO_SOURCE_WORDS, NO_TEXTS,
                         Case)
from tests.slow_house import ROW

ROWS = [
    ("put a k 1 2", ["put", "a", "k", 1, 2]),
    ("put source 01234567 -3 0", ["put", "source", "01234567", -3, 0]),
    (f"put zzzzzz abcdefgh {MOST_WIDE} -{MOST_WIDE}", ["put", "zzzzzz", "abcdefgh", MOST_WIDE, -MOST_WIDE]),
    (f"put a 0 -{MOST_WIDE} {MOST_WIDE}", ["put", "a", "0", -MOST_WIDE, MOST_WIDE]),
    ("put put take 0 0", ["put", "put", "take", 0, 0]),
    ("take a k", ["take", "a", "k"]),
    ("take abcdef 7", ["take", "abcdef", "7"]),
    ("rank a", ["rank", "a"]),
    ("rank a b c d e f", ["rank", "a", "b", "c", "d", "e", "f"]),
    # Which sources there are is the house's business.
    ("rank b b b b b b b b", ["rank"] + ["b"] * 8),
    ("rank rank", ["rank", "rank"]),
    ("shut 0 3", ["shut", 0, 3]),
    (f"shut 4 -{MOST_NUMBER}", ["shut", 4, -MOST_NUMBER]),
    (f"shut {MOST_NUMBER} {MOST_NUMBER}", ["shut", MOST_NUMBER, MOST_NUMBER]),
    ("open -1 0", ["open", -1, 0]),
    (f"open -{MOST_NUMBER} -{MOST_NUMBER}", ["open", -MOST_NUMBER, -MOST_NUMBER]),
    ("forget -1 0", ["forget", -1, 0]),
    (f"forget {MOST_NUMBER} {MOST_WIDE}", ["forget", MOST_NUMBER, MOST_WIDE]),
    (f"forget 0 -{MOST_WIDE}", ["forget", 0, -MOST_WIDE]),
    ("follow f 0 0 1", ["follow", "f", 0, 0, 1]),
    (f"follow follow 3 -{MOST_NUMBER} {MOST_NUMBER}", ["follow", "follow", 3, -MOST_NUMBER, MOST_NUMBER]),
    # Nor does it matter here whether it is a span.
    ("follow abcdef -7 5 -5", ["follow", "abcdef", -7, 5, -5]),
]

# No number in any place.
NO_NUMBER_WORDS = ["", "-", "+1", "-0", "+0", "00", "01", "-01", "007", "--1", "1-", "1_0", "1.0", "1.", "1e1", "0x1",
                   "a", "x1", "None", "1\n", "\n1", "\t1", "1\t", "1\r", "1\x00", "\u0661", "\u00b2", "\uff11",
                   "\u22121", "\ufeff1", "\u00a01", "\ud800", "1" * 41, "-" + "1" * 41, "0" * 41, "1" * 5000,
                   "-" + "1" * 5000, f"{10 ** 40}", f"-{10 ** 40}", f"0{MOST_WIDE}", "1/2", "'1'"]
NO_WIDE_WORDS = NO_NUMBER_WORDS + [f"{10 ** 30}", f"-{10 ** 30}", "1" * 31, "-" + "1" * 31, "9" * 40]

SPOILT = [
    "", " ", "  ", "x", "put", "take", "rank", "shut", "open", "forget", "follow", "rank ", " rank", "rank  ",
    "Put a k 1 2", "PUT a k 1 2", "puts a k 1 2", "pu a k 1 2", "back", "news f", "bar 0 0", "a put k 1 2",
    "move a k 1 2",
    "tell a k 1 2", "open_bar 0 0", "taketake a k", "rank, a", "put,a,k,1,2", "put/a/k/1/2", "put(a, k, 1, 2)",
    "put a k 1", "put a k", "put a", "put a k 1 2 3", "put a k 1 2 a", "put a k 1 2 ", "put a k 1  2", "put a k  1 2",
    "put a  k 1 2", "put  a k 1 2", " put a k 1 2", "put\ta k 1 2", "put a\tk 1 2", "put a k\t1 2", "put a k 1\t2",
    "put a k 1 2\t", "put a k 1 2\n", "\nput a k 1 2", "put a k 1\n2", "put a k 1 2\r", "put a k 1 2\x00",
    "put\u00a0a k 1 2", "put a k 1\u00a02", "put a k 1\u20032", "\ufeffput a k 1 2", "put a k 1 2;", "put a k 1, 2",
    "put k 1 2", "put a 1 2", "put a k 1 2 put a k 1 2", "put a k 1 2\nput b k 1 2",
    "take a", "take a k 1", "take a k ", "take  a k", "take a  k", " take a k", "take a\tk", "take\ta k", "take a k\n",
    "take a k k",
    "rank a ", "rank  a", "rank a  b", " rank a", "rank a\tb", "rank\ta", "rank a\n", "rank a, b", "rank a b 1",
    "rank 1", "rank a b c d e F",
    "shut 0", "shut 0 0 0", "shut 0 0 ", "shut  0 0", "shut 0  0", " shut 0 0", "shut 0\t0", "shut\t0 0", "shut 0 0\n",
    "shut 0/0", "shut a 0", "shut 0 a",
    "open 0", "open 0 0 0", "open 0 0 ", "open  0 0", "open 0  0", " open 0 0", "open 0\t0", "open 0 0\n", "open a 0",
    "forget 0", "forget 0 0 0", "forget 0 0 ", "forget  0 0", "forget 0  0", " forget 0 0", "forget 0\t0",
    "forget 0 0\n", "forget a 0", "forget 0 a", "forget -1",
    "follow f 0 0", "follow f 0", "follow f", "follow f 0 0 1 2", "follow f 0 0 1 ", "follow  f 0 0 1",
    "follow f 0 0  1", "follow f  0 0 1", " follow f 0 0 1", "follow f\t0 0 1", "follow f 0 0\t1", "follow f 0 0 1\n",
    "follow 0 0 1", "follow 0 f 0 1", "follow f f 0 1", "follow f 0 f 1", "follow f 0 0 f",
]


class Words(Case):

    def test_each_deed(self):
        for row, words in ROWS:
            self.same(words_of(row), words)

    def test_each_sign_of_keys_and_letter_of_names(self):
        for sign in KEY_SIGNS:
            self.same(words_of(f"take a {sign}"), ["take", "a", sign])
            self.same(words_of(f"take a {sign * 8}"), ["take", "a", sign * 8])
            if sign.isalpha():
                for row in [f"take {sign} k", f"take {sign * 6} k", f"rank {sign} {sign * 6}"]:
                    self.same(words_of(row), row.split(" "))

    def test_spoilt(self):
        for row in SPOILT:
            self.refused(NoRow, words_of, row)

    def test_what_is_no_name(self):
        for wrong in [word for word in NO_SOURCE_WORDS if word != "a b"]:
            for row in [f"put {wrong} k 1 2", f"take {wrong} k", f"rank {wrong}", f"rank a {wrong}", f"rank {wrong} a",
                        f"follow {wrong} 0 0 1"]:
                self.refused(NoRow, words_of, row)

    def test_what_is_no_key(self):
        for wrong in NO_KEYS:
            self.refused(NoRow, words_of, f"put a {wrong} 1 2")
            self.refused(NoRow, words_of, f"take a {wrong}")

    def test_what_is_no_wide_number(self):
        for wrong in NO_WIDE_WORDS:
            for row in [f"put a k {wrong} 2", f"put a k 1 {wrong}", f"forget 0 {wrong}"]:
                self.refused(NoRow, words_of, row)

    def test_what_is_no_number_of_forty_figures(self):
        for wrong in NO_NUMBER_WORDS:
            for row in [f"shut {wrong} 0", f"shut 0 {wrong}", f"open {wrong} 0", f"open 0 {wrong}",
                        f"forget {wrong} 0", f"follow f {wrong} 0 1", f"follow f 0 {wrong} 1", f"follow f 0 0 {wrong}"]:
                self.refused(NoRow, words_of, row)

    def test_what_is_no_text(self):
        for wrong in NO_TEXTS + [thing for thing in NO_LISTS if not isinstance(thing, str)]:
            self.refused(NoRow, words_of, wrong)
        for row, words in ROWS:
            for wrong in [words, tuple(words), row.split(" "), [row], (row,), row.encode(), {row}, {row: row}]:
                self.refused(NoRow, words_of, wrong)

    def test_rows_with_a_sign_changed_beside_a_slow_reading(self):
        chance, read = random.Random(111), 0
        for _ in range(6000):
            row = chance.choice(ROWS)[0]
            at = chance.randrange(len(row) + 1)
            put = chance.choice(["", " ", "0", "1", "-", "a", "z", "9", "\t", "A", "\n", "/"])
            row = row[:at] + put + row[at + chance.choice([0, 1]):]
            if ROW.fullmatch(row):
                read += 1
                words = words_of(row)
                self.assertEqual(" ".join(str(word) for word in words), row)
                self.assertIs(type(words), list)
                wanted = {"put": [str] * 3 + [int] * 2, "take": [str] * 3, "rank": [str] * len(words),
                          "shut": [str, int, int], "open": [str, int, int], "forget": [str, int, int],
                          "follow": [str, str, int, int, int]}[words[0]]
                self.assertEqual([type(word) for word in words], wanted)
            else:
                self.refused(NoRow, words_of, row)
        self.assertGreater(read, 500)

    def test_asked_again_and_the_askers_own(self):
        told = words_of("rank a b")
        told.reverse()
        told.clear()
        self.same(words_of("rank a b"), ["rank", "a", "b"])


if __name__ == "__main__":
    unittest.main()

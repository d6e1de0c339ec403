"""Promises 25, 26 and 28, and 2 and 3 as they bear on them: deeds done and refused, and what a house tells."""

import unittest

from peakroll.bars import bar_of
from peakroll.errors import (Gone, Held, NoFloor, NoDeed, NoLock, NoMoment, NoNumber, NoRoll, NoRow, NoSources, NotOpen,
                             NoTell, NoTime, Sealed, TooMany)
from peakroll.houses import House
from peakroll.ladders import Ladder
from tests.helps import (MOST_NUMBER, MOST_WIDE, NO_BAR, NO_LISTS, NO_NUMBERS, NO_SOURCE_WORDS, NO_WHOLES, NO_WIDES)
from tests.house_helps import COUNTED, START, TENS, HouseCase, house_of, one_bar, told_by
from tests.test_deeds import SPOILT


class Made(HouseCase):

    def test_at_first(self):
        house = House(TENS, ["a", "b"])
        self.same((house.entries(), house.locks()), ([], ""))
        self.same(house.bar(0, 0), NO_BAR)
        self.same(house.bar_between(0, 5), NO_BAR)
        self.refused(NoDeed, house.back)
        self.refused(NoRow, house.news, "f")

    def test_no_sources(self):
        wrong = NO_LISTS + [[], (), ["a", "a"], ["a"] * 7, list("abcdefg"), "abc", ["a", None], [["a"]], ["a", 1]]
        for sources in wrong + [[word] for word in NO_SOURCE_WORDS]:
            self.refused(NoSources, House, TENS, sources)

    def test_one_to_six_lists_and_tuples(self):
        for sources in [["a"], ("a",), list("fedcba"), ("abcdef", "b")]:
            house = House(TENS, sources)
            house.do(f"put {sources[-1]} k 1 2")
            self.same(house.entries(), [(1, "k", 2)])

    def test_sources_changed_behind_the_call(self):
        sources = ["a", "b"]
        house = House(TENS, sources)
        sources.reverse()
        sources.append("c")
        for row in START:
            house.do(row)
        self.same(house.entries(), COUNTED)
        self.refused(NoSources, house.do, "put c k 1 1")


class Rows(HouseCase):

    def test_what_is_no_row(self):
        house = house_of(*START)
        before = told_by(house)
        for row in SPOILT + NO_WHOLES + [["put", "a", "k", 1, 2], ("take", "a", "k"), ["take a k"], b"take a k", 0, 1]:
            self.refused(NoRow, house.do, row)
        for row in ["put a k 01 2", "put a k -0 2", f"put a k {10 ** 30} 2", f"put a k 1 -{10 ** 30}", "put A k 1 2",
                    "put a K 1 2", f"shut 0 {10 ** 40}", f"shut {10 ** 40} 0", f"open 0 -{10 ** 40}", "shut 0 01",
                    f"forget 0 {10 ** 30}", f"forget {10 ** 40} 0", f"follow f 0 0 {10 ** 40}", "follow f1 0 0 1"]:
            self.refused(NoRow, house.do, row)
        self.same(told_by(house), before)

    def test_no_row_goes_ahead_of_all(self):
        house = house_of(*START, "forget -1 15", "shut 0 2")
        for row in ["put c k 1 02", "take c zz ", "rank c 1", "shut 9 00", "open 9 -0", "forget 9 00",
                    "follow f 9 0 00"]:
            self.refused(NoRow, house.do, row)


class Put(HouseCase):

    def test_done(self):
        house = House(TENS, ["a", "b"])
        self.assertIsNone(house.do("put b k 1 5"))
        self.same(house.entries(), [(1, "k", 5)])
        house.do("put a k 2 6")
        self.same(house.entries(), [(2, "k", 6)])
        house.do("put b k 3 7")
        self.same(house.entries(), [(2, "k", 6)])
        house.do("put a k 11 8")
        house.do("put a j 11 9")
        self.same(house.entries(), [(11, "j", 9), (11, "k", 8)])
        self.same(house.bar(0, 1), bar_of([(11, "j", 9), (11, "k", 8)]))
        self.same(house.bar_between(0, 11), NO_BAR)

    def test_keys_of_figures(self):
        self.same(house_of("put a 7 1 2", "put a 07 2 3").entries(), [(1, "7", 2), (2, "07", 3)])

    def test_far(self):
        house = House(Ladder(0, [1], [(0, [1])]), ["a"])
        house.do(f"put a k {MOST_WIDE} -{MOST_WIDE}")
        house.do(f"put a l -{MOST_WIDE} {MOST_WIDE}")
        self.same(house.entries(), [(-MOST_WIDE, "l", MOST_WIDE), (MOST_WIDE, "k", -MOST_WIDE)])

    def test_a_source_that_the_house_has_not(self):
        for row in ["put c k 1 2", "put aa k 1 2", "put ab k 1 2"]:
            self.refuse(START, row, NoSources)

    def test_sealed(self):
        for row in ["put a k 21 5", "put b k 21 5", "put a k 1 5", "put b k 2 6", "put b k 2 7"]:
            self.refuse(START + ["forget -1 15"], row, Sealed)

    def test_not_open(self):
        for moment in [4, 5, 9, 14, 19, -1, -6, 24]:
            self.refuse(START, f"put a x {moment} 1", NotOpen)
            # Whether it would be counted or not.
            self.refuse(START, f"put b m {moment} 1", NotOpen)
        for moment in [0, 3, 10, 13, -10, -7]:
            house_of(*START, f"put a x {moment} 1")

    def test_gone(self):
        for row in ["put a x 1 2", "put b x 3 2", "put a x -10 2", "put a m 1 7", "put b n 3 9", "put a n 2 9"]:
            self.refuse(START + ["forget -1 15"], row, Gone)
        house = house_of(*START, "forget -1 15")
        # What isn't counted may lie there, and what lies at the floor may be counted.
        house.do("put b m 1 8")
        house.do("put a x 10 2")
        self.same(house.entries(), [(10, "x", 2)] + COUNTED[1:])

    def test_held(self):
        for lock in ["shut 0 2", "shut 1 0", "shut 2 0"]:
            for row in ["put a x 20 1", "put a x 23 1", "put a m 21 8", "put a m 101 7", "put a n 21 0",
                        "put a u 23 0"]:
                self.refuse(START + [lock], row, Held)
            # Nothing that is counted changes.
            house = house_of(*START, lock, "put b m 23 100", "put a m 21 7", "put b u 101 7", "put a x 101 1")
            self.same(house.entries(), COUNTED + [(101, "x", 1)])
        # Moved, it is still neither the first nor the last of the greater bars.
        self.refuse(START + ["shut 0 2"], "put a m 22 7", Held)
        house_of(*START, "shut 1 0", "shut 2 0", "put a m 22 7")
        house_of(*START, "shut 0 2", "put a x 33 1", "put a y 13 1")

    def test_the_bar_is_held_not_the_entries(self):
        rows = ["put a p 20 0", "put a q 21 5", "put a r 22 7", "put a s 23 9", "shut 0 2", "shut 1 0"]
        house = house_of(*rows, "put a q 22 5")
        self.same(house.entries(), [(20, "p", 0), (22, "q", 5), (22, "r", 7), (23, "s", 9)])
        self.refuse(rows, "put a q 22 6", Held)

    def test_two_that_are_due_at_once(self):
        rows = START + ["forget -1 15", "shut 0 2", "shut 0 0", "shut 0 1"]
        for row, kind in [("put c k 21 1", NoSources), ("put c x 24 1", NoSources), ("put c x 1 1", NoSources),
                          ("put c x 21 1", NoSources), ("put a k 24 1", Sealed), ("put a k 5 1", Sealed),
                          ("put a k 2 1", Sealed), ("put a k 21 1", Sealed), ("put a x 5 1", NotOpen),
                          ("put a m 5 7", NotOpen), ("put a x 24 1", NotOpen), ("put a x 1 1", Gone),
                          ("put a m 1 1", Gone), ("put a x 11 1", Held)]:
            self.refuse(rows, row, kind)


class Take(HouseCase):

    def test_done(self):
        house = house_of(*START)
        self.assertIsNone(house.do("take a m"))
        self.same(house.entries(), [(1, "k", 5), (22, "m", 8), (23, "u", 1), (53, "n", 9)])
        house.do("take b m")
        self.same(house.entries(), [(1, "k", 5), (23, "u", 1), (53, "n", 9)])
        house.do("take b k")
        self.same(house.entries(), [(1, "k", 5), (23, "u", 1), (53, "n", 9)])

    def test_no_sources_and_no_tell(self):
        self.refuse(START, "take c k", NoSources)
        self.refuse(START, "take c zz", NoSources)
        for row in ["take a n", "take a zz", "take b zz"]:
            self.refuse(START, row, NoTell)
        self.refuse(START + ["take a m"], "take a m", NoTell)

    def test_sealed(self):
        for row in ["take a k", "take b k"]:
            self.refuse(START + ["forget -1 15"], row, Sealed)

    def test_gone(self):
        # What b tells of u would be counted, and lies ahead of the floor.
        self.refuse(START + ["forget -1 15"], "take a u", Gone)
        house = house_of(*START, "forget -1 15", "take b u", "take a u", "take a m")
        self.same(house.entries(), [(22, "m", 8), (53, "n", 9)])

    def test_held(self):
        for lock in ["shut 0 2", "shut 1 0", "shut 2 0"]:
            self.refuse(START + [lock], "take a m", Held)
            self.same(house_of(*START, lock, "take b m").entries(), COUNTED)
        self.refuse(START + ["shut 0 5"], "take b n", Held)

    def test_two_that_are_due_at_once(self):
        rows = START + ["forget -1 15", "shut 0 2", "shut 0 0"]
        for row, kind in [("take c k", NoSources), ("take c u", NoSources), ("take a u", Gone), ("take a m", Held),
                          ("take a k", Sealed)]:
            self.refuse(rows, row, kind)
        # Told by b alone, and sealed: what a doesn't tell goes ahead.
        self.refuse(["put b k 1 5", "forget -1 15"], "take a k", NoTell)


class Rank(HouseCase):

    def test_done(self):
        house = house_of(*START)
        self.assertIsNone(house.do("rank b a"))
        self.same(house.entries(), [(2, "k", 6), (3, "u", 4), (22, "m", 8), (53, "n", 9)])
        house.do("rank b a")
        house.do("rank a b")
        self.same(house.entries(), COUNTED)

    def test_no_sources(self):
        for row in ["rank a", "rank b", "rank a b c", "rank a a", "rank a b a", "rank a c", "rank c d", "rank ab",
                    "rank a b a b a b a b"]:
            self.refuse(START, row, NoSources)

    def test_gone(self):
        self.refuse(START + ["forget -1 15"], "rank b a", Gone)
        # Without what would come to lie ahead of the floor, what lies there would change all the same.
        self.refuse(START + ["forget -1 15", "take b u"], "rank b a", Gone)
        self.refuse(["put a u 23 1", "put b u 3 4", "forget -1 15"], "rank b a", Gone)
        self.same(house_of("put a k 1 5", "put b k 1 5", "put a m 21 7", "put b m 22 8", "forget -1 15",
                           "rank b a").entries(), [(22, "m", 8)])

    def test_held(self):
        for lock in ["shut 0 0", "shut 0 2", "shut 1 0", "shut 2 0"]:
            self.refuse(START + [lock], "rank b a", Held)
            self.same(house_of(*START, lock, "rank a b").entries(), COUNTED)
        house_of(*START, "shut 0 5", "rank b a")

    def test_two_that_are_due_at_once(self):
        rows = START + ["forget -1 15", "shut 0 2", "shut 0 0"]
        self.refuse(rows, "rank b a", Gone)
        self.refuse(rows, "rank b a a", NoSources)
        self.refuse(START + ["shut 0 0"], "rank b", NoSources)


class Locked(HouseCase):

    def test_done(self):
        house = house_of(*START)
        self.assertIsNone(house.do("shut 1 0"))
        house.do("shut 0 -7")
        house.do(f"shut 2 {MOST_NUMBER}")
        self.same(house.locks(), f"0/-7 1/0 2/{MOST_NUMBER}")
        self.assertIsNone(house.do("open 0 -7"))
        self.same(house.locks(), f"1/0 2/{MOST_NUMBER}")
        self.same(house.entries(), COUNTED)

    def test_opened_it_may_change(self):
        house = house_of(*START, "shut 0 2")
        self.refuses(house, "put a m 22 7", Held)
        bar = house.bar(0, 2)
        house.do("open 0 2")
        house.do("put a m 22 7")
        self.assertNotEqual(house.bar(0, 2), bar)

    def test_no_roll_and_no_lock(self):
        for row in ["shut 3 0", "shut -1 0", f"shut {MOST_NUMBER} 0", "open 3 0", "open -1 0",
                    f"open -{MOST_NUMBER} 0"]:
            self.refuse(START + ["shut 0 0"], row, NoRoll)
        for row in ["shut 0 0", "open 0 1", "open 1 0"]:
            self.refuse(START + ["shut 0 0"], row, NoLock)
        self.refuse(START + ["shut 0 0", "open 0 0"], "open 0 0", NoLock)
        # Both are due: there is no such roll, so nothing is shut there.
        self.refuse(START, f"open 3 {MOST_NUMBER}", NoRoll)

    def test_a_bar_of_forgotten_time(self):
        house = house_of(*START, "forget -1 60", "forget 0 60", "shut 0 0", "shut 1 0")
        self.same(house.locks(), "0/0 1/0")
        house.do("open 0 0")
        self.same(house.locks(), "1/0")


class Forget(HouseCase):

    def test_done(self):
        house = house_of(*START)
        self.assertIsNone(house.do("forget -1 25"))
        self.same(house.entries(), COUNTED[1:])
        self.same(house.bar(0, 0), one_bar(1, "k", 5))
        self.same(house.bar(1, 0), bar_of(COUNTED[:3]))
        self.refused(Gone, house.bar_between, 1, 2)
        house.do("forget -1 53")
        self.same(house.entries(), COUNTED[3:])
        house.do("forget 0 53")
        self.refused(Gone, house.bar, 0, 0)
        self.refused(Gone, house.bar, 0, 4)
        self.same(house.bar(0, 5), one_bar(53, "n", 9))
        self.same(house.bar(1, 0), bar_of(COUNTED[:3]))
        house.do("forget 1 53")
        self.same(house.bar(1, 0), bar_of(COUNTED[:3]))
        self.same(house.bar(2, 0), bar_of(COUNTED))

    def test_the_book_goes_on(self):
        house = house_of(*START, "forget -1 25", "put a x 43 2", "put a m 31 0", "take b n")
        self.same(house.entries(), [(23, "u", 1), (31, "m", 0), (43, "x", 2)])
        self.same(house.bar(1, 0), bar_of([COUNTED[0], (23, "u", 1), (31, "m", 0), (43, "x", 2)]))
        self.same(house.bar(2, 0), bar_of([COUNTED[0], (23, "u", 1), (31, "m", 0), (43, "x", 2)]))
        self.same(house.bar_between(0, 30), bar_of([COUNTED[0], (23, "u", 1)]))

    def test_no_roll_and_no_floor(self):
        for row in ["forget 2 0", "forget -2 0", "forget 3 0", f"forget {MOST_NUMBER} 0", f"forget -{MOST_NUMBER} 0"]:
            self.refuse(START + ["forget -1 55"], row, NoRoll)
        for row in ["forget -1 49", "forget 0 100", "forget 1 0", f"forget -1 -{MOST_WIDE}", f"forget 0 {MOST_WIDE}"]:
            self.refuse(START + ["forget -1 55"], row, NoFloor)
        self.refuse(START, "forget 0 0", NoFloor)
        self.refuse(START, f"forget 2 -{MOST_WIDE}", NoRoll)

    def test_a_shut_bar_is_no_hindrance(self):
        house = house_of(*START, "shut 0 0", "shut 1 0", "forget -1 55", "forget 0 55")
        self.same(house.entries(), [(53, "n", 9)])
        self.same(house.locks(), "0/0 1/0")
        self.same(house.bar(1, 0), bar_of(COUNTED[:3]))


class Follow(HouseCase):

    def test_done(self):
        house = house_of(*START)
        self.assertIsNone(house.do("follow f 0 0 5"))
        self.same(house.news("f"), [(0, NO_BAR, bar_of(COUNTED[:1])), (2, NO_BAR, bar_of(COUNTED[1:3]))])
        self.same(house.news("f"), [])
        house.do("put a m 31 7")
        self.same(house.news("f"), [(2, bar_of(COUNTED[1:3]), one_bar(23, "u", 1)), (3, NO_BAR, one_bar(31, "m", 7))])
        self.same(house.news("f"), [])

    def test_several_followers(self):
        house = house_of("follow f 0 0 5", "follow abcdef 1 -9 9", "follow g 2 0 1", *START)
        self.same(house.news("abcdef"), [(0, NO_BAR, bar_of(COUNTED[:3])), (1, NO_BAR, bar_of(COUNTED[3:]))])
        self.same(house.news("g"), [(0, NO_BAR, bar_of(COUNTED))])
        self.same(house.news("abcdef"), [])
        self.assertEqual([row[0] for row in house.news("f")], [0, 2])

    def test_in_the_place_of_one_of_that_name(self):
        house = house_of(*START, "follow f 0 0 5")
        house.news("f")
        house.do("follow f 0 0 5")
        self.same(house.news("f"), [(0, NO_BAR, bar_of(COUNTED[:1])), (2, NO_BAR, bar_of(COUNTED[1:3]))])
        house.do("follow f 2 0 5")
        self.same(house.news("f"), [(0, NO_BAR, bar_of(COUNTED))])

    def test_spans_of_forty_figures(self):
        house = house_of(*START, f"follow f 0 -{MOST_NUMBER} {MOST_NUMBER}")
        self.assertEqual([row[0] for row in house.news("f")], [0, 2, 5])

    def test_no_roll_and_no_number(self):
        for row, kind in [("follow f 3 0 1", NoRoll), ("follow f -1 0 1", NoRoll), ("follow f 0 1 1", NoNumber),
                          ("follow f 0 1 0", NoNumber), (f"follow f 2 {MOST_NUMBER} -{MOST_NUMBER}", NoNumber),
                          ("follow f 3 1 1", NoRoll), ("follow f -1 1 0", NoRoll)]:
            house = house_of(*START, "follow f 0 0 5")
            house.news("f")
            self.refuses(house, row, kind)
            # The follower that was there is there, with what it knew.
            self.same(house.news("f"), [])

    def test_no_follower_of_that_name(self):
        house = house_of(*START, "follow f 0 0 5")
        for name in NO_WHOLES + NO_SOURCE_WORDS + ["g", "ff", "F", " f", "f ", 0, 1, ["f"], ("f",), b"f", {"f"}]:
            self.refused(NoRow, house.news, name)
        self.assertEqual(len(house.news("f")), 2)

    def test_as_if_nothing_had_been_forgotten(self):
        house = house_of(*START, "forget -1 55", "forget 0 55", "forget 1 55", "follow f 0 0 9")
        self.refused(Gone, house.bar, 0, 0)
        self.same(house.news("f"), [(0, NO_BAR, bar_of(COUNTED[:1])), (2, NO_BAR, bar_of(COUNTED[1:3])),
                                    (5, NO_BAR, bar_of(COUNTED[3:]))])
        house.do("put a n 52 9")
        self.same(house.news("f"), [(5, bar_of(COUNTED[3:]), one_bar(52, "n", 9))])


class Told(HouseCase):

    def test_bars_and_times_refused_as_a_keepers(self):
        house = house_of(*START, "forget -1 55", "forget 0 55")
        for wrong in NO_WHOLES + NO_WIDES + [-1, 3]:
            self.refused(NoRoll, house.bar, wrong, 0)
            self.refused(NoRoll, house.bar, wrong, None)
        for wrong in NO_WHOLES + NO_NUMBERS:
            self.refused(NoNumber, house.bar, 0, wrong)
        for wrong in NO_WHOLES + NO_WIDES:
            self.refused(NoMoment, house.bar_between, wrong, 0)
            self.refused(NoMoment, house.bar_between, 0, wrong)
        self.refused(NoTime, house.bar_between, 5, 5)
        self.refused(NoTime, house.bar_between, 5, 4)
        self.refused(TooMany, house.bar_between, -MOST_WIDE, MOST_WIDE)
        self.refused(Gone, house.bar_between, 1, 60)
        self.refused(Gone, house.bar, 0, 4)
        self.same(house.bar(0, 5), one_bar(53, "n", 9))

    def test_what_is_told_is_its_askers_own(self):
        house = house_of(*START, "forget -1 15", "follow f 0 0 9")
        before = told_by(house)
        told = house.entries()
        told.reverse()
        told.clear()
        self.same(told_by(house), before)
        news = house.news("f")
        news.clear()
        self.same(house.news("f"), [])
        self.same(told_by(house), before)

    def test_two_houses_side_by_side(self):
        one, other = house_of(*START), house_of(*START)
        before = told_by(other)
        for row in ["rank b a", "shut 0 2", "follow f 0 0 5", "forget -1 60"]:
            one.do(row)
        self.same(told_by(other), before)
        self.refused(NoRow, other.news, "f")
        other.back()


if __name__ == "__main__":
    unittest.main()

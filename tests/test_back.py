"""Promise 27: deeds taken back."""

import unittest

from peakroll.errors import Held, NoDeed, NoFloor, NoRoll, NoRow
from peakroll.houses import House
from tests.helps import NO_BAR
from tests.house_helps import COUNTED, START, TENS, HouseCase, house_of, one_bar, told_by
from tests.slow_house import tell


class Back(HouseCase):

    def test_where_there_is_none(self):
        house = House(TENS, ["a", "b"])
        self.refused(NoDeed, house.back)
        house.do("put a k 1 5")
        self.assertIsNone(house.back())
        self.refused(NoDeed, house.back)
        self.same(house.entries(), [])

    def test_behind_each_deed(self):
        deeds = ["put a x 31 1", "put a m 101 1", "put b m 23 1", "put a k 1 5", "take a m", "take b k", "take b n",
                 "rank b a", "rank a b", "shut 1 3", "open 2 -4", "follow f 1 0 5", "follow g 0 0 5"]
        for deed in deeds:
            house = house_of(*START, "shut 2 -4", "follow f 0 0 5")
            before = told_by(house)
            house.do(deed)
            house.back()
            self.same(told_by(house), before)
            # And on as if it had never been done: what isn't counted, or isn't told of, is as it was too.
            other = house_of(*START, "shut 2 -4", "follow f 0 0 5")
            for row in ["rank b a", "take b m", "take b k", "take b u", "take b n", "shut 1 3", "open 2 -4"]:
                house.do(row)
                other.do(row)
                self.same(told_by(house), told_by(other))
            self.same(house.news("f"), other.news("f"))
            self.refused(NoRow, house.news, "g")

    def test_all_the_way(self):
        house = House(TENS, ["a", "b"])
        rows = START + ["shut 0 2", "take b k", "put a x 33 3", "open 0 2", "rank b a", "take b u", "follow f 0 0 5"]
        seen = []
        for row in rows:
            seen.append(told_by(house))
            house.do(row)
        for before in reversed(seen):
            house.back()
            self.same(told_by(house), before)
        self.refused(NoDeed, house.back)

    def test_behind_a_refused_deed(self):
        house = house_of(*START)
        house.do("put a x 31 1")
        for row in ["put a x 35 1", "put c x 31 1", "take a n", "rank a", "shut 3 0", "open 0 0", "forget 0 0",
                    "forget 2 0", "follow f 0 1 1", "no row", ""]:
            self.assertIsNotNone(tell(house.do, row))
        house.back()
        self.same(house.entries(), COUNTED)

    def test_behind_forget(self):
        house = house_of(*START, "forget -1 15")
        self.refused(NoDeed, house.back)
        before = told_by(house)
        house.do("put a x 31 1")
        house.do("shut 0 2")
        house.back()
        house.back()
        self.same(told_by(house), before)
        self.refused(NoDeed, house.back)
        self.same(told_by(house), before)
        # A forgetting that raises nothing is one all the same.
        house.do("put a x 31 1")
        house.do("forget -1 15")
        self.refused(NoDeed, house.back)
        house.do("put a y 31 1")
        house.do("forget 0 15")
        self.refused(NoDeed, house.back)
        self.same(house.entries(), [(21, "m", 7), (23, "u", 1), (31, "x", 1), (31, "y", 1), (53, "n", 9)])

    def test_a_refused_forget_leaves_what_was_done(self):
        house = house_of(*START)
        self.refused(NoFloor, house.do, "forget 0 15")
        self.refused(NoRoll, house.do, "forget 2 15")
        house.back()
        house.back()
        self.same(house.entries(), [(1, "k", 5), (21, "m", 7), (53, "n", 9)])

    def test_done_again_and_taken_back_again(self):
        house = house_of(*START)
        for _ in range(3):
            house.do("take a m")
            self.same(house.entries()[1], (22, "m", 8))
            house.back()
            self.same(house.entries(), COUNTED)
        house.back()
        self.same(house.entries(), COUNTED)
        house.back()
        self.same(house.entries(), [COUNTED[0], COUNTED[1], COUNTED[3]])

    def test_what_was_taken_back_is_not_the_last_any_more(self):
        house = house_of("put a k 1 5", "put a k 2 6")
        house.back()
        house.do("put a k 3 7")
        house.back()
        self.same(house.entries(), [(1, "k", 5)])
        house.back()
        self.same(house.entries(), [])
        self.refused(NoDeed, house.back)

    def test_locks_do_not_hold_it(self):
        house = house_of(*START, "shut 0 2")
        house.back()
        house.back()
        self.same(house.locks(), "")
        house = house_of(*START, "shut 0 2", "put a x 33 1", "open 0 2", "put a m 22 7")
        house.back()
        house.back()
        self.same(house.locks(), "0/2")
        self.refuses(house, "put a m 22 7", Held)

    def test_what_each_follower_knows_stays(self):
        house = house_of("follow f 0 0 9", "put a k 1 5")
        self.same(house.news("f"), [(0, NO_BAR, one_bar(1, "k", 5))])
        house.do("put a k 2 6")
        house.back()
        self.same(house.news("f"), [])
        house.do("put a k 2 6")
        self.same(house.news("f"), [(0, one_bar(1, "k", 5), one_bar(2, "k", 6))])
        house.back()
        self.same(house.news("f"), [(0, one_bar(2, "k", 6), one_bar(1, "k", 5))])
        house.back()
        self.same(house.news("f"), [(0, one_bar(1, "k", 5), NO_BAR)])
        self.same(house.news("f"), [])

    def test_a_follower_goes_and_another_is_there_again(self):
        house = house_of("put a k 1 5", "follow f 0 0 9")
        house.news("f")
        house.do("put a k 2 6")
        house.do("follow f 1 0 9")
        self.same(house.news("f"), [(0, NO_BAR, one_bar(2, "k", 6))])
        house.back()
        # The one of roll 0, which knew the first value alone.
        self.same(house.news("f"), [(0, one_bar(1, "k", 5), one_bar(2, "k", 6))])
        house.back()
        self.same(house.news("f"), [(0, one_bar(2, "k", 6), one_bar(1, "k", 5))])
        house.back()
        self.refused(NoRow, house.news, "f")
        house.do("follow f 0 0 9")
        self.same(house.news("f"), [(0, NO_BAR, one_bar(1, "k", 5))])

    def test_other_followers_stay(self):
        house = house_of("put a k 1 5", "follow g 0 0 9", "follow f 0 0 9")
        house.news("g")
        house.back()
        self.refused(NoRow, house.news, "f")
        self.same(house.news("g"), [])


if __name__ == "__main__":
    unittest.main()

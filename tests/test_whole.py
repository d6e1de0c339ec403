"""Promise 4 over the whole program, with 26 to 28: whatever was done, and in whatever order."""

import itertools
import random
import unittest

from peakroll.errors import (Gone, Held, NoFloor, NoLock, NoNumber, NoRoll, NoRow, NoSources, NotOpen, NoTell, Sealed)
from peakroll.houses import House
from peakroll.ladders import Ladder
from tests.helps import FAR, MOST_NUMBER, MOST_WIDE, NO_BAR, SMALL, slow_bar
from tests.house_helps import START, TENS, HouseCase, house_of, told_by
from tests.slow_house import SlowHouse, tell


class Orders(HouseCase):

    def test_told_the_same_in_unlike_orders(self):
        wanted = house_of(*START, "rank b a", "shut 0 5", "follow f 0 0 9")
        for order in itertools.permutations(START[:5] + ["rank b a"]):
            house = house_of("put a n 1 1", *order, *START[5:], "take a n", "shut 0 5", "follow f 0 0 9")
            self.same((house.entries(), house.locks()), (wanted.entries(), wanted.locks()))
            self.same(house.bar(1, 0), wanted.bar(1, 0))
        self.same(told_by(house), told_by(wanted))
        self.same(house.news("f"), wanted.news("f"))

    def test_told_the_same_in_unlike_orders_behind_forgettings(self):
        chance = random.Random(121)
        late = ["put a p 31 1", "put b p 33 2", "put b q 42 3", "put a r 73 4", "take b n", "put b m 33 8"]
        wanted = house_of(*START, "forget -1 15", *late, "forget -1 35", *["put a s 81 5", "put b s 82 6"])
        for _ in range(20):
            house = house_of(*chance.sample(START, len(START)), "forget -1 15", *chance.sample(late, len(late)),
                             "forget -1 25", "forget -1 35", "put b s 82 6", "put a s 81 5")
            self.same(told_by(house), told_by(wanted))


class BesideTheSlowWay(HouseCase):
    """Any deeds, done to a house and to one that is reckoned anew of all entries each time."""

    def test_any_deeds(self):
        seen = {}
        for seed in range(40):
            chance = random.Random(seed)
            begin, parts, rows = chance.choice(SMALL + [(0, [4, -6], [(0, [5]), (0, [2])])] * 10)
            sources = chance.sample(["a", "b", "c"], chance.choice([1, 2, 3]))
            ladder = Ladder(begin, parts, rows)
            house, slow = House(ladder, sources), SlowHouse(ladder, sources)
            for step in range(90):
                self.deed(chance, house, slow, begin + step // 3, seen)
                self.look(chance, house, slow, begin)
        for kind in [None, NoRow, NoSources, NoTell, NoRoll, NoNumber, NoLock, NoFloor, Sealed, NotOpen, Gone, Held]:
            self.assertGreater(seen.get(kind, 0), 9, kind)

    def deed(self, chance, house, slow, middle, seen):
        if chance.random() < 0.15:
            self.same(tell(house.back), slow.back())
            return
        row = self.some_row(chance, middle, house.ladder.rolls(), slow)
        refusal = tell(house.do, row)
        self.assertEqual(refusal, slow.do(row), row)
        seen[refusal] = seen.get(refusal, 0) + 1

    def some_row(self, chance, middle, rolls, slow):
        source = chance.choice(slow.order * 5 + ["a", "d"])
        key = chance.choice(["k", "m", "n", "1", "07"] + list("pqrstuvwxy"))
        moment, roll = middle + chance.randint(-12, 9), chance.randint(-1, rolls)
        number = slow.ladder.bar_at(max(0, min(roll, rolls - 1)), moment)
        open_pair = chance.choice(sorted(slow.shut)) if slow.shut and chance.random() < 0.8 else (roll, number)
        word = chance.choice(["put"] * 12 + ["take"] * 5 + ["rank"] * 2 + ["shut"] * 2 + ["open"] * 2 + ["follow"] * 3
                             + ["forget"] * 2 + ["wrong"])
        order = chance.sample(slow.order, len(slow.order))
        return {"put": f"put {source} {key} {moment} {chance.randint(-9, 9)}", "take": f"take {source} {key}",
                "rank": "rank " + " ".join(order + chance.choice([[], [], ["a"]])),
                "shut": f"shut {roll} {number}", "open": f"open {open_pair[0]} {open_pair[1]}",
                "forget": f"forget {chance.choice([-1, -1, roll])} {moment - chance.randint(0, 6)}",
                "follow": f"follow {chance.choice('fg')} {roll} {number} {number + chance.randint(0, 9)}",
                "wrong": f"put {source} {key} {moment}"}[word]

    def look(self, chance, house, slow, begin):
        self.same((house.entries(), house.locks()), (slow.entries(), slow.locks()))
        if chance.random() < 0.5:
            name = chance.choice("fg")
            self.same(tell(house.news, name), slow.news(name))
        for _ in range(3):
            roll = chance.randrange(house.ladder.rolls())
            number = house.ladder.bar_at(roll, begin + chance.randint(-10, 40))
            self.same(tell(house.bar, roll, number), slow.bar(roll, number))
            one, other = begin + chance.randint(-10, 40), begin + chance.randint(-10, 40)
            if chance.random() < 0.5:
                one = house.ladder.stretch(roll, number)[0]
            self.same(tell(house.bar_between, one, other), slow.bar_between(one, other))

    def test_far(self):
        for begin, parts, rows in FAR:
            ladder = Ladder(begin, parts, rows)
            house, slow = House(ladder, ["a", "b"]), SlowHouse(ladder, ["a", "b"])
            moments = [moment for place in (-MOST_WIDE, -10 ** 29, 0, 10 ** 29, MOST_WIDE - 9)
                       for moment in (place, place + 1, place + 7)]
            deeds = [f"put {source} {source}{at} {moment} {moment}" for at, moment in enumerate(moments)
                     for source in ("a", "b")]
            deeds += [f"follow f 0 -{MOST_NUMBER} {MOST_NUMBER}", f"shut 0 {ladder.bar_at(0, 0)}", "put a x 0 1",
                      f"put a y {10 ** 29} 1", f"forget -1 -{10 ** 29}", "forget 0 0", f"put a x -{MOST_WIDE} 1",
                      f"take a a{len(moments) - 1}"]
            for row in deeds:
                self.assertEqual(tell(house.do, row), slow.do(row), row)
            self.same((house.entries(), house.locks()), (slow.entries(), slow.locks()))
            self.same(house.news("f"), slow.news("f"))
            for moment in moments:
                for roll in range(ladder.rolls()):
                    number = ladder.bar_at(roll, moment)
                    self.same(tell(house.bar, roll, number), slow.bar(roll, number))
                self.same(tell(house.bar_between, moment, moment + 2), slow.bar_between(moment, moment + 2))


class TheWhole(HouseCase):
    """Promise 4, over the whole program."""

    def test_a_deed_changes_just_the_bars_that_hold_what_it_changed(self):
        house = house_of(*START)
        for row, places in [("put a x 31 1", {31}), ("put a m 53 1", {21, 53}), ("take a m", {53, 22}),
                            ("take b m", {22}), ("put b k 3 1", set()), ("take b n", {53})]:
            before = {(roll, number): house.bar(roll, number) for roll in range(3) for number in range(-2, 8)}
            house.do(row)
            for (roll, number), bar in before.items():
                first, behind = TENS.stretch(roll, number)
                unlike = any(first <= place < behind for place in places)
                self.assertEqual(house.bar(roll, number) != bar, unlike, (row, roll, number))

    def test_a_shut_bar_stays_as_it_is_till_it_is_opened(self):
        chance, refused = random.Random(131), 0
        for roll in [0, 1, 2]:
            house = house_of(*START, f"shut {roll} 0")
            bar = house.bar(roll, 0)
            for _ in range(200):
                deed = chance.choice(["put a", "put b", "take a", "take b", "rank"])
                key, moment = chance.choice("kmnuxyz"), chance.choice([0, 1, 2, 3, 21, 23, 51, 101])
                row = {"rank": chance.choice(["rank a b", "rank b a"])}.get(deed, f"{deed} {key}")
                row += f" {moment} {chance.randint(-9, 9)}" if deed.startswith("put") else ""
                refused += tell(house.do, row) is Held
                self.same(house.bar(roll, 0), bar)
                self.same(slow_bar([entry for entry in house.entries() if entry[0] < TENS.stretch(roll, 0)[1]]), bar)
            house.do(f"open {roll} 0")
            house.do("put a new 0 100")
            self.assertNotEqual(house.bar(roll, 0), bar)
        self.assertGreater(refused, 100)

    def test_the_bar_of_any_stretch_however_it_was_come_to(self):
        house = house_of(*START, "put a x 12 1", "put b y 33 2", "put a z 71 3")
        entries = house.entries()
        for row in ["shut 0 0", "forget -1 21", "forget -1 53"]:
            house.do(row)
            for roll, number in itertools.product(range(3), range(-1, 8)):
                first, behind = TENS.stretch(roll, number)
                wanted = slow_bar([entry for entry in entries if first <= entry[0] < behind])
                self.same(house.bar(roll, number), wanted)
                self.same(house.bar_between(first, behind), wanted)

    def test_who_follows_is_told_each_difference_once(self):
        chance = random.Random(141)
        house, known = house_of("follow f 0 -5 12"), {}
        for _ in range(300):
            row = chance.choice([f"put {chance.choice('ab')} {chance.choice('kmnu')} "
                                 f"{10 * chance.randint(-6, 12) + chance.randint(0, 3)} {chance.randint(-2, 2)}",
                                 f"take {chance.choice('ab')} {chance.choice('kmnu')}", "rank b a", "rank a b"])
            tell(house.do, row) if chance.random() < 0.8 else tell(house.back)
            if chance.random() < 0.5:
                for number, before, after in house.news("f"):
                    self.same(before, known.get(number, NO_BAR))
                    self.assertNotEqual(before, after)
                    known[number] = after
                for number in range(-5, 12):
                    self.same(house.bar(0, number), known.get(number, NO_BAR))


if __name__ == "__main__":
    unittest.main()

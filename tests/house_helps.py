"""What the tests of houses need: one ladder, deeds to begin with, and all that a house tells."""

from peakroll.bars import bar_of
from peakroll.houses import House
from peakroll.ladders import Ladder
from tests.helps import Case
from tests.slow_house import tell

# Bars of roll 0 begin at 0, 10, 20 .., their shut parts at 4, 14, 24 ..; bars of roll 1 begin at 0, 50, 100 ..; those
# of roll 2 at 0, 100, 200 ..
TENS = Ladder(0, [4, -6], [(0, [5]), (0, [2])])

# Counted: k at 1, u at 23, m at 21 by a, the best; n at 53 by b.
START = ["put a k 1 5", "put b k 2 6", "put a m 21 7", "put b m 22 8", "put b n 53 9", "put a u 23 1", "put b u 3 4"]
COUNTED = [(1, "k", 5), (21, "m", 7), (23, "u", 1), (53, "n", 9)]


def house_of(*rows):
    house = House(TENS, ["a", "b"])
    for row in rows:
        house.do(row)
    return house


def told_by(house):
    """All that a house of this ladder tells, near its entries, but for news, which are told once."""
    bars = [tell(house.bar, roll, number) for roll in range(3) for number in range(-2, 8)]
    times = [tell(house.bar_between, one, other) for one in range(-10, 70, 5) for other in range(-8, 70, 6)]
    return (house.entries(), house.locks(), bars, times)


def one_bar(moment, key, value):
    return bar_of([(moment, key, value)])


class HouseCase(Case):

    def refuses(self, house, row, kind):
        """The deed is refused, and nothing is changed by it: not what is told, nor what can be taken back."""
        before = told_by(house)
        self.refused(kind, house.do, row)
        self.same(told_by(house), before)

    def refuse(self, rows, row, kind):
        self.refuses(house_of(*rows), row, kind)

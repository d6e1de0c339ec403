"""Ladders: how time is parted into the bars of roll 0, and these into those of the greater rolls."""

from peakroll.checks import is_list_from, is_whole_from, is_wide, need_moment, need_number, need_roll
from peakroll.errors import NoLadder
from peakroll.rounds import first_of, number_of, size_of

MOST_PARTS = 12
MOST_LENGTH = 1000000000
MOST_ROWS = 4
MOST_SIZES = 12
MOST_SIZE = 1000


def is_part(value):
    return is_whole_from(value, -MOST_LENGTH, MOST_LENGTH) and value != 0


def are_parts(value):
    return is_list_from(value, 1, MOST_PARTS) and all([is_part(part) for part in value]) and value[0] > 0


def are_sizes(value):
    return is_list_from(value, 1, MOST_SIZES) and all([is_whole_from(size, 1, MOST_SIZE) for size in value])


def is_row(value):
    return is_list_from(value, 2, 2) and is_wide(value[0]) and are_sizes(value[1])


def are_rows(value):
    return is_list_from(value, 0, MOST_ROWS) and all([is_row(row) for row in value])


def bar_lengths(parts):
    """The lengths of a round's roll 0 bars: each open part with the shut ones right behind it."""
    lengths = []
    for part in parts:
        if part > 0:
            lengths.append(part)
        else:
            lengths[-1] -= part
    return lengths


class Ladder:
    """A ladder. Its steps are pairs (beginning, sizes), one for each roll: roll 0 counts moments, roll k bars of
    roll k - 1, so all rolls are reckoned alike."""

    def __init__(self, begin, parts, rows):
        if not (is_wide(begin) and are_parts(parts) and are_rows(rows)):
            raise NoLadder("a ladder has a wide beginning, one to twelve parts and none to four rows")
        self.part_lengths = tuple(parts)
        self.open_lengths = tuple([part for part in parts if part > 0])
        lowest = (begin, tuple(bar_lengths(parts)))
        self.steps = tuple([lowest] + [(row[0], tuple(row[1])) for row in rows])

    def begin(self):
        return self.steps[0][0]

    def parts(self):
        return list(self.part_lengths)

    def rows(self):
        return list(self.steps[1:])

    def rolls(self):
        return len(self.steps)

    def bar_at(self, roll, moment):
        """The number of the roll's bar that has the moment."""
        need_roll(roll, 0, self.rolls() - 1)
        need_moment(moment)
        number = moment
        for begin, sizes in self.steps[:roll + 1]:
            number = number_of(begin, sizes, number)
        return number

    def stretch(self, roll, number):
        """The bar's first moment, and the first behind it."""
        need_roll(roll, 0, self.rolls() - 1)
        need_number(number)
        return (self.first_moment(roll, number), self.first_moment(roll, number + 1))

    def first_moment(self, roll, number):
        place = number
        for begin, sizes in reversed(self.steps[:roll + 1]):
            place = first_of(begin, sizes, place)
        return place

    def lesser(self, roll, number):
        """The number of the bar's first bar of the next lesser roll, and how many these are."""
        need_roll(roll, 1, self.rolls() - 1)
        need_number(number)
        begin, sizes = self.steps[roll]
        return (first_of(begin, sizes, number), size_of(sizes, number))

    def greater(self, roll, number):
        """The number of the bar of the next greater roll that has this bar."""
        need_roll(roll, 0, self.rolls() - 2)
        need_number(number)
        begin, sizes = self.steps[roll + 1]
        return number_of(begin, sizes, number)

    def is_open(self, moment):
        # bar_at refuses what is no moment: roll 0 is there in each ladder.
        number = self.bar_at(0, moment)
        return moment - self.first_moment(0, number) < size_of(self.open_lengths, number)

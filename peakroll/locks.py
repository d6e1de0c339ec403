"""Locks: which bars of a ladder are shut, what they hold, and locks written as texts and read from them."""

from peakroll.changes import changes
from peakroll.checks import need_number, need_roll, need_text
from peakroll.errors import NoLock, NoNumber, NoRoll, NoText
from peakroll.numbertexts import NUMBER_FIGURES, whole_of


class Locks:
    """Locks. Shut bars are kept as pairs (roll, number)."""

    def __init__(self, ladder):
        self.ladder = ladder
        self.shut_pairs = {}

    def shut(self, roll, number):
        if self.is_shut(roll, number):
            raise NoLock("the bar is shut already")
        self.shut_pairs[(roll, number)] = True

    def open_bar(self, roll, number):
        if not self.is_shut(roll, number):
            raise NoLock("the bar isn't shut")
        del self.shut_pairs[(roll, number)]

    def is_shut(self, roll, number):
        need_roll(roll, 0, self.ladder.rolls() - 1)
        need_number(number)
        return (roll, number) in self.shut_pairs

    def held_by(self, moment):
        """The shut bars whose stretches have the moment: pairs (roll, number), rising."""
        # bar_at refuses what is no moment: roll 0 is there in each ladder.
        pairs = [(roll, self.ladder.bar_at(roll, moment)) for roll in range(self.ladder.rolls())]
        return [pair for pair in pairs if pair in self.shut_pairs]

    def broken(self, one, other):
        """The first shut bar that is unlike in two lists of entries, as (roll, number), or None."""
        for roll, number, bar, beside in changes(self.ladder, one, other):
            if (roll, number) in self.shut_pairs:
                return (roll, number)
        return None

    def written(self):
        return " ".join([f"{roll}/{number}" for roll, number in sorted(self.shut_pairs)])

    def copied(self):
        locks = Locks(self.ladder)
        locks.shut_pairs = dict(self.shut_pairs)
        return locks


def read_locks(ladder, text):
    need_text(text)
    locks = Locks(ladder)
    # No locks are written as nothing at all, which has no word between blanks.
    if text == "":
        return locks
    for word in text.split(" "):
        shut_read(locks, word)
    # Bars that stand in another order are not so written.
    if locks.written() != text:
        raise NoText("locks are read in order, the least roll first, then the least number")
    return locks


def shut_read(locks, word):
    roll, stroke, number = word.partition("/")
    try:
        locks.shut(whole_of(roll, NUMBER_FIGURES), whole_of(number, NUMBER_FIGURES))
    except (NoRoll, NoNumber, NoLock):
        raise NoText("a lock is read as a roll of the ladder, a stroke and a number, each lock once") from None

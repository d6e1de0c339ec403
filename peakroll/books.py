"""Books: what sources tell of keys, and what of it is counted."""

from peakroll.bars import in_order
from peakroll.checks import is_list_from, is_source
from peakroll.errors import NoSources, NoTell

MOST_SOURCES = 6


def are_sources(value):
    if not is_list_from(value, 1, MOST_SOURCES) or not all([is_source(source) for source in value]):
        return False
    return len(set(value)) == len(value)


class Book:
    """A book. What is told is kept by pairs (source, key), apart from the order, which is looked at only when it is
    asked what is counted."""

    def __init__(self, sources):
        if not are_sources(sources):
            raise NoSources("a book has one to six unlike sources")
        self.best_first = tuple(sources)
        self.told = {}

    def order(self):
        return list(self.best_first)

    def put(self, source, key, moment, value):
        self.told[(source, key)] = (moment, value)

    def take(self, source, key):
        pair = (source, key)
        if pair not in self.told:
            raise NoTell("the source doesn't tell the key")
        del self.told[pair]

    def rank(self, order):
        if not are_sources(order) or sorted(order) != sorted(self.best_first):
            raise NoSources("a new order has all the book's sources, each once")
        self.best_first = tuple(order)

    def tells(self, key):
        """What is told of the key, as tuples (source, moment, value), the best source first."""
        telling = [source for source in self.best_first if (source, key) in self.told]
        return [(source,) + self.told[(source, key)] for source in telling]

    def counted(self, key):
        """The entry that the best source tells, or None."""
        rows = self.tells(key)
        if not rows:
            return None
        source, moment, value = rows[0]
        return (moment, key, value)

    def entries(self):
        keys = sorted({key for source, key in self.told})
        return in_order([self.counted(key) for key in keys])

    def copied(self):
        book = Book(self.best_first)
        book.told = dict(self.told)
        return book

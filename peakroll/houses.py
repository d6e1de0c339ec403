"""Houses: a book, locks, a keeper and followers, changed by deeds."""

from peakroll.books import Book
from peakroll.deeds import words_of
from peakroll.errors import Gone, Held, NoDeed, NoRow, NoSources, NotOpen, Sealed
from peakroll.followers import Follower
from peakroll.keepers import ENTRIES_LEVEL, Keeper
from peakroll.locks import Locks


class House:
    """A house. No deed changes its book, its locks or its dict of followers: others are put in their places, so that
    those which were there can be put back. The followers themselves stay, with what they know."""

    def __init__(self, ladder, sources):
        self.book = Book(sources)
        self.ladder = ladder
        self.shut_bars = Locks(ladder)
        self.keeper = Keeper(ladder)
        self.followers = {}
        self.past = []

    def do(self, row):
        words = words_of(row)
        if words[0] == "forget":
            self.keeper.forget(words[1], words[2])
            # No forgetting is taken back, and nothing that was done ahead of one.
            self.past = []
        elif words[0] == "follow":
            self.change(self.book, self.shut_bars, self.followers_behind(words))
        elif words[0] in ("shut", "open"):
            self.change(self.book, locks_behind(self.shut_bars, words), self.followers)
        else:
            self.change(self.book_behind(words), self.shut_bars, self.followers)

    def change(self, book, shut_bars, followers):
        self.past.append((self.book, self.shut_bars, self.followers))
        self.settle(book, shut_bars, followers)

    def settle(self, book, shut_bars, followers):
        self.book = book
        self.shut_bars = shut_bars
        self.followers = followers
        sealed = self.keeper.sealed()
        self.keeper.give([entry for entry in book.entries() if entry[1] not in sealed])

    def followers_behind(self, words):
        followers = dict(self.followers)
        followers[words[1]] = Follower(self.ladder, words[2], words[3], words[4])
        return followers

    def book_behind(self, words):
        """The book as the deed makes it, or a refusal."""
        book = self.book.copied()
        do_in_book(book, words)
        if words[0] != "rank" and words[2] in self.keeper.sealed():
            raise Sealed("the key is that of a forgotten entry")
        if words[0] == "put" and not self.ladder.is_open(words[3]):
            raise NotOpen("the moment lies in no open part")
        self.need_may_change(self.book.entries(), book.entries())
        return book

    def need_may_change(self, one, other):
        if self.forgotten_of(one) != self.forgotten_of(other):
            raise Gone("counted entries ahead of the entries' floor would change")
        if self.shut_bars.broken(one, other) is not None:
            raise Held("a shut bar would change")

    def forgotten_of(self, entries):
        return [entry for entry in entries if self.keeper.is_gone(ENTRIES_LEVEL, entry[0])]

    def back(self):
        if not self.past:
            raise NoDeed("there is no deed that can be taken back")
        book, shut_bars, followers = self.past.pop()
        self.settle(book, shut_bars, followers)

    def bar(self, roll, number):
        return self.keeper.bar(roll, number)

    def bar_between(self, one, other):
        return self.keeper.bar_between(one, other)

    def entries(self):
        return self.keeper.entries()

    def news(self, name):
        if not isinstance(name, str) or name not in self.followers:
            raise NoRow("there is no follower of that name")
        # A follower's bars are those of all that is counted, the forgotten entries too.
        return self.followers[name].news(self.book.entries())

    def locks(self):
        return self.shut_bars.written()


def locks_behind(locks, words):
    """The locks as the deed makes them."""
    behind = locks.copied()
    if words[0] == "shut":
        behind.shut(words[1], words[2])
    else:
        behind.open_bar(words[1], words[2])
    return behind


def do_in_book(book, words):
    if words[0] == "rank":
        book.rank(words[1:])
        return
    # A book itself doesn't look whether a source is one of its own.
    if words[1] not in book.order():
        raise NoSources("the house hasn't that source")
    if words[0] == "put":
        book.put(words[1], words[2], words[3], words[4])
    else:
        book.take(words[1], words[2])

"""Promises 11 and 12, and 2, 3 and 4 as they bear on them: sources, telling and taking back, what is counted."""

import itertools
import random
import unittest

from peakroll.books import Book
from peakroll.errors import NoSources, NoTell
from tests.helps import MOST_WIDE, NO_LISTS, NO_SOURCE_WORDS, NO_WHOLES, Case, slow_order, some_keys

SIX = ["a", "zzzzzz", "b", "ab", "ba", "source"]


def told_by(book, keys):
    return (book.order(), book.entries(), [(book.counted(key), book.tells(key)) for key in keys])


def slow_told(order, telling, keys):
    """The same, reckoned from a dict of each source to a dict of what it tells."""
    rows = []
    for key in keys:
        tells = []
        for source in order:
            if key in telling[source]:
                tells.append((source, telling[source][key][0], telling[source][key][1]))
        rows.append(((tells[0][1], key, tells[0][2]) if tells else None, tells))
    return (list(order), slow_order([counted for counted, tells in rows if counted is not None]), rows)


def three():
    """Key k is told by all, m by b and c, n by c alone."""
    book = Book(["a", "b", "c"])
    book.put("c", "k", 30, 3)
    book.put("a", "k", 10, 1)
    book.put("b", "k", 20, 2)
    book.put("c", "m", 5, 33)
    book.put("b", "m", 50, 22)
    book.put("c", "n", 10, -3)
    return book


class Sources(Case):

    def test_made(self):
        for sources in [["a"], ["abcdef"], ["zzzzzz", "a"], ["b", "a", "c"], SIX[:5], SIX]:
            for handed in [sources, tuple(sources)]:
                book = Book(handed)
                self.same(book.order(), sources)
                self.same(book.entries(), [])
                self.same(book.tells("k"), [])
                self.assertIsNone(book.counted("k"))

    def test_each_letter(self):
        for letter in "abcdefghijklmnopqrstuvwxyz":
            self.same(Book([letter, letter * 2, letter * 6]).order(), [letter, letter * 2, letter * 6])

    def test_no_list_of_sources(self):
        for sources in NO_LISTS + ["a", "abc", "a b", b"a", {"a": 1}, {"a"}, frozenset(["a"]), iter(["a"]), Book]:
            self.refused(NoSources, Book, sources)

    def test_none_and_more_than_six(self):
        for sources in [[], (), SIX + ["c"], tuple(SIX + ["c"]), ["a"] * 7, list("abcdefgh"), ["a"] * 5000]:
            self.refused(NoSources, Book, sources)

    def test_like_sources(self):
        for sources in [["a", "a"], ("a", "a"), ["a", "b", "a"], ["ab", "c", "d", "e", "f", "ab"], ["b", "a", "a"]]:
            self.refused(NoSources, Book, sources)

    def test_what_is_no_source(self):
        for wrong in NO_SOURCE_WORDS + [thing for thing in NO_WHOLES if not isinstance(thing, str)] + [0, 1, ["a"]]:
            self.refused(NoSources, Book, [wrong])
            self.refused(NoSources, Book, ["a", wrong])
            self.refused(NoSources, Book, (wrong, "a"))
            self.refused(NoSources, Book, [wrong, wrong])
            self.refused(NoSources, Book, ["a", "b", "c", "d", "e", wrong])


class Told(Case):

    def test_by_hand(self):
        book = three()
        self.same(told_by(book, ["k", "m", "n", "o"]), (
            ["a", "b", "c"],
            [(10, "k", 1), (10, "n", -3), (50, "m", 22)],
            [((10, "k", 1), [("a", 10, 1), ("b", 20, 2), ("c", 30, 3)]),
             ((50, "m", 22), [("b", 50, 22), ("c", 5, 33)]),
             ((10, "n", -3), [("c", 10, -3)]),
             (None, [])]))

    def test_put_and_take_tell_none(self):
        book = Book(["a"])
        self.assertIsNone(book.put("a", "k", 1, 2))
        self.assertIsNone(book.rank(["a"]))
        self.assertIsNone(book.take("a", "k"))

    def test_the_later_takes_the_place_of_the_earlier(self):
        book = three()
        book.put("a", "k", -7, 70)
        self.same(book.counted("k"), (-7, "k", 70))
        self.same(book.tells("k"), [("a", -7, 70), ("b", 20, 2), ("c", 30, 3)])
        book.put("b", "k", 21, 71)
        self.same(book.tells("k"), [("a", -7, 70), ("b", 21, 71), ("c", 30, 3)])
        book.put("a", "k", -7, 70)
        self.same(book.tells("k"), [("a", -7, 70), ("b", 21, 71), ("c", 30, 3)])
        self.same(book.entries(), [(-7, "k", 70), (10, "n", -3), (50, "m", 22)])

    def test_taken_back(self):
        book = three()
        book.take("b", "k")
        self.same(book.counted("k"), (10, "k", 1))
        self.same(book.tells("k"), [("a", 10, 1), ("c", 30, 3)])
        book.take("a", "k")
        self.same(book.counted("k"), (30, "k", 3))
        self.same(book.entries(), [(10, "n", -3), (30, "k", 3), (50, "m", 22)])
        book.take("c", "k")
        self.assertIsNone(book.counted("k"))
        self.same(book.tells("k"), [])
        self.same(book.entries(), [(10, "n", -3), (50, "m", 22)])
        for source, key in [("b", "m"), ("c", "m"), ("c", "n")]:
            book.take(source, key)
        self.same(book.entries(), [])

    def test_told_again_behind_a_taking(self):
        book = three()
        book.take("a", "k")
        book.put("a", "k", 99, 9)
        self.same(book.counted("k"), (99, "k", 9))
        self.same(book.tells("k"), [("a", 99, 9), ("b", 20, 2), ("c", 30, 3)])
        book.take("a", "k")
        self.same(book.counted("k"), (20, "k", 2))

    def test_taking_back_what_is_not_told(self):
        book = three()
        before = told_by(book, ["k", "m", "n", "o"])
        for source, key in [("a", "m"), ("a", "n"), ("b", "n"), ("a", "o"), ("b", "o"), ("c", "o"), ("c", "kk")]:
            self.refused(NoTell, book.take, source, key)
        self.same(told_by(book, ["k", "m", "n", "o"]), before)
        book.take("b", "m")
        self.refused(NoTell, book.take, "b", "m")
        self.same(book.tells("m"), [("c", 5, 33)])
        self.refused(NoTell, Book(["a"]).take, "a", "k")

    def test_keys_and_numbers_at_their_ends(self):
        book = Book(["a"])
        rows = [(-MOST_WIDE, "z", MOST_WIDE), (0, "0", 0), (0, "01234567", -1), (0, "abcdefgh", 1),
                (MOST_WIDE, "a", -MOST_WIDE)]
        for moment, key, value in reversed(rows):
            book.put("a", key, moment, value)
        self.same(book.entries(), rows)
        for moment, key, value in rows:
            self.same(book.counted(key), (moment, key, value))
            self.same(book.tells(key), [("a", moment, value)])

    def test_sixty_keys(self):
        chance = random.Random(51)
        book, rows = Book(SIX), []
        for at, key in enumerate(some_keys(chance, 60)):
            rows.append((chance.randint(-9, 9), key, at))
            book.put(chance.choice(SIX), key, rows[-1][0], at)
        self.same(book.entries(), slow_order(rows))

    def test_a_key_of_one_source_and_a_source_of_one_key_are_apart(self):
        book = Book(["a", "ab"])
        book.put("a", "bc", 1, 1)
        book.put("ab", "c", 2, 2)
        self.same(book.entries(), [(1, "bc", 1), (2, "c", 2)])
        self.refused(NoTell, book.take, "ab", "bc")
        self.refused(NoTell, book.take, "a", "c")


class Ranked(Case):

    def test_by_hand(self):
        book = three()
        book.rank(["c", "a", "b"])
        self.same(told_by(book, ["k", "m", "n"]), (
            ["c", "a", "b"],
            [(5, "m", 33), (10, "n", -3), (30, "k", 3)],
            [((30, "k", 3), [("c", 30, 3), ("a", 10, 1), ("b", 20, 2)]),
             ((5, "m", 33), [("c", 5, 33), ("b", 50, 22)]),
             ((10, "n", -3), [("c", 10, -3)])]))

    def test_every_order_lists_and_tuples(self):
        book = three()
        telling = {"a": {"k": (10, 1)}, "b": {"k": (20, 2), "m": (50, 22)},
                   "c": {"k": (30, 3), "m": (5, 33), "n": (10, -3)}}
        for order in itertools.permutations("abc"):
            for handed in [order, list(order)]:
                book.rank(handed)
                self.same(told_by(book, ["k", "m", "n", "o"]), slow_told(order, telling, ["k", "m", "n", "o"]))

    def test_one_and_six_sources(self):
        one = Book(["a"])
        one.rank(("a",))
        self.same(one.order(), ["a"])
        six = Book(SIX)
        six.rank(SIX[::-1])
        self.same(six.order(), SIX[::-1])
        six.rank(SIX[::-1])
        self.same(six.order(), SIX[::-1])

    def test_no_order_of_the_book(self):
        book = three()
        before = told_by(book, ["k", "m", "n"])
        wrong = NO_LISTS + ["abc", "cba", b"abc", {"a": 1, "b": 2, "c": 3}, {"a", "b", "c"}, iter("abc"), [], (), ["a"],
                            ["a", "b"], ["a", "c"], ["a", "b", "b"], ["a", "b", "d"], ["a", "b", "c", "d"],
                            ["a", "b", "c", "a"], ["a", "b", "c", "c"], ["a", "b", "c"] * 2, ["a", "b", "c"] * 50,
                            ["a", "b", "C"], ["abc"], ["a b c"], [["a", "b", "c"]], [["a"], ["b"], ["c"]], "a b c",
                            ["d", "e", "f"], three()]
        for order in wrong:
            self.refused(NoSources, book.rank, order)
        for sign in NO_SOURCE_WORDS + [thing for thing in NO_WHOLES if not isinstance(thing, str)]:
            self.refused(NoSources, book.rank, ["a", "b", sign])
            self.refused(NoSources, book.rank, (sign, "b", "c"))
            self.refused(NoSources, book.rank, ["a", "b", "c", sign])
            self.refused(NoSources, book.rank, [sign])
        self.same(told_by(book, ["k", "m", "n"]), before)

    def test_no_order_of_one_source(self):
        book = Book(["a"])
        for order in [[], ["b"], ["a", "a"], ["a", "b"], ["aa"], "a", None]:
            self.refused(NoSources, book.rank, order)
        self.same(book.order(), ["a"])


class Alone(Case):
    """A book's entries hang on what each source tells now, and on the order, alone."""

    def test_any_deeds_beside_the_slow_way(self):
        for seed in range(12):
            chance = random.Random(seed)
            sources = SIX[:chance.choice([1, 2, 3, 6])]
            keys = some_keys(chance, chance.choice([1, 4, 12]))
            book, telling = Book(sources), {source: {} for source in sources}
            for _ in range(150):
                sources = self.deed(chance, book, telling, sources, keys)
                self.same(told_by(book, keys), slow_told(sources, telling, keys))
            self.told_afresh(chance, book, telling, sources, keys)

    def deed(self, chance, book, telling, sources, keys):
        """One deed, done to both; the order behind it."""
        source, key, word = chance.choice(sources), chance.choice(keys), chance.choice(["put", "put", "take", "rank"])
        if word == "put":
            telling[source][key] = (chance.randint(-3, 3), chance.randint(-9, 9))
            book.put(source, key, *telling[source][key])
        elif word == "rank":
            sources = chance.sample(sources, len(sources))
            book.rank(sources)
        elif key in telling[source]:
            del telling[source][key]
            book.take(source, key)
        else:
            self.refused(NoTell, book.take, source, key)
        return sources

    def told_afresh(self, chance, book, telling, sources, keys):
        """Another book, told the same in other orders, with more told and taken between, tells the same."""
        rows = [(source, key) + telling[source][key] for source in sources for key in telling[source]]
        for _ in range(4):
            other = Book(chance.sample(sources, len(sources)))
            for source, key, moment, value in chance.sample(rows, len(rows)):
                other.put(source, key, moment + 5, value - 5)
                if chance.random() < 0.5:
                    other.take(source, key)
                other.put(source, key, moment, value)
            other.put(sources[0], "gone", 0, 0)
            other.take(sources[0], "gone")
            other.rank(sources)
            self.same(told_by(other, keys), told_by(book, keys))


class Copied(Case):

    def test_just_like_it(self):
        for book in [Book(["a"]), Book(SIX), three()]:
            other = book.copied()
            self.assertIs(type(other), Book)
            self.assertIsNot(other, book)
            self.same(told_by(other, ["k", "m", "n", "o"]), told_by(book, ["k", "m", "n", "o"]))

    def test_of_a_ranked_book(self):
        book = three()
        book.rank(["b", "c", "a"])
        self.same(told_by(book.copied(), ["k", "m", "n"]), told_by(book, ["k", "m", "n"]))

    def test_done_to_the_one_the_other_does_not_change(self):
        deeds = [lambda book: book.put("a", "k", 77, 7), lambda book: book.put("b", "new", 78, 8),
                 lambda book: book.take("c", "k"), lambda book: book.take("c", "n"),
                 lambda book: book.rank(["c", "b", "a"])]
        keys = ["k", "m", "n", "new"]
        for deed in deeds:
            for turn in [0, 1]:
                pair = [three()]
                pair.append(pair[0].copied())
                before = told_by(pair[0], keys)
                deed(pair[turn])
                self.assertNotEqual(told_by(pair[turn], keys), before)
                self.same(told_by(pair[1 - turn], keys), before)

    def test_a_copy_of_a_copy(self):
        book = three()
        before = told_by(book, ["k"])
        far = book.copied().copied()
        far.take("a", "k")
        far.rank(["c", "b", "a"])
        self.same(told_by(book, ["k"]), before)
        self.same(far.copied().tells("k"), [("c", 30, 3), ("b", 20, 2)])


class Own(Case):

    def test_what_is_handed_in_stays_as_it_was(self):
        sources, order = ["b", "a"], ["a", "b"]
        book = Book(sources)
        book.rank(order)
        book.put("a", "k", 1, 2)
        book.order(), book.entries(), book.copied()
        self.assertEqual((sources, order), (["b", "a"], ["a", "b"]))
        for wrong in [["b", "a", "a"], ["b"], ["b", None]]:
            handed = list(wrong)
            self.refused(NoSources, book.rank, handed)
            self.assertEqual(handed, wrong)

    def test_changed_behind_the_call(self):
        sources, order = ["b", "a"], ["a", "b"]
        book = Book(sources)
        sources.append("c")
        sources[0] = "z"
        self.same(book.order(), ["b", "a"])
        book.rank(order)
        order.reverse()
        order.pop()
        self.same(book.order(), ["a", "b"])
        book.rank(["b", "a"])
        self.same(book.order(), ["b", "a"])

    def test_what_is_told_is_its_askers_own(self):
        book = three()
        keys = ["k", "m", "n", "o"]
        before = told_by(book, keys)
        copy = book.copied()
        for told in [book.order(), book.entries(), book.tells("k"), book.tells("o")]:
            told.reverse()
            told.append(None)
            told[0] = "x"
        book.order().clear()
        book.entries().clear()
        book.tells("k").clear()
        self.same(told_by(book, keys), before)
        self.same(told_by(copy, keys), before)

    def test_asking_changes_nothing(self):
        book = three()
        keys = ["k", "m", "n", "o"]
        before = told_by(book, keys)
        self.same(told_by(book, keys), before)
        book.put("a", "o", 1, 1)
        book.take("a", "o")
        self.same(told_by(book, keys), before)

    def test_two_books_side_by_side(self):
        one, other = Book(["a", "b"]), Book(["a", "b"])
        one.put("a", "k", 1, 2)
        one.rank(["b", "a"])
        self.same(told_by(other, ["k"]), (["a", "b"], [], [(None, [])]))

    def test_a_refused_call_changes_nothing(self):
        book = three()
        keys = ["k", "m", "n", "o"]
        before = told_by(book, keys)
        self.refused(NoTell, book.take, "a", "m")
        self.refused(NoSources, book.rank, ["c", "b"])
        self.refused(NoSources, book.rank, None)
        self.refused(NoSources, book.__init__, ["c", "c"])
        self.refused(NoSources, book.__init__, None)
        self.same(told_by(book, keys), before)


if __name__ == "__main__":
    unittest.main()

"""Deeds: rows of words, read as texts and whole numbers."""

from peakroll.checks import is_key, is_source
from peakroll.errors import NoRow
from peakroll.numbertexts import NUMBER_FIGURES, WIDE_FIGURES, whole_of

# What stands behind each deed's word; behind rank stands any number of names, one at least.
KINDS = {
    "put": ("name", "key", "wide", "wide"),
    "take": ("name", "key"),
    "shut": ("number", "number"),
    "open": ("number", "number"),
    "forget": ("number", "wide"),
    "follow": ("name", "number", "number", "number"),
}


def words_of(row):
    """The deed's word, and the texts and whole numbers behind it."""
    if not isinstance(row, str):
        raise NoRow("a row is a text")
    words = row.split(" ")
    kinds = kinds_behind(words[0], len(words) - 1)
    if len(kinds) != len(words) - 1:
        raise NoRow("the deed has another number of words")
    return words[:1] + [read_word(kind, word) for kind, word in zip(kinds, words[1:])]


def kinds_behind(deed, many):
    if deed == "rank":
        return ("name",) * max(many, 1)
    if deed not in KINDS:
        raise NoRow("there is no such deed")
    return KINDS[deed]


def read_word(kind, word):
    meant = meaning_of(kind, word)
    if meant is None:
        raise NoRow("a word is not of its kind")
    return meant


def meaning_of(kind, word):
    """The text or the whole number that the word is as one of that kind, or None."""
    if kind == "wide":
        return whole_of(word, WIDE_FIGURES)
    if kind == "number":
        return whole_of(word, NUMBER_FIGURES)
    is_right = is_key(word) if kind == "key" else is_source(word)
    return word if is_right else None

"""Entries written as texts, and read from them; bars written."""

from peakroll.checks import is_key, need_text
from peakroll.errors import NoText
from peakroll.numbertexts import read_wide


def write_entries(entries):
    return " ".join([f"{moment}/{key}/{value}" for moment, key, value in entries])


def read_entries(text):
    need_text(text)
    # No entries are written as nothing at all, which has no word between blanks.
    if text == "":
        return []
    return [read_entry(word) for word in text.split(" ")]


def read_entry(word):
    pieces = word.split("/")
    if len(pieces) != 3 or not is_key(pieces[1]):
        raise NoText("an entry is read as its moment, its key and its value, with a stroke between")
    return (read_wide(pieces[0]), pieces[1], read_wide(pieces[2]))


def write_bar(bar):
    if bar[0] == 0:
        return "0"
    return " ".join([str(number) for number in bar[:4]] + [write_entries(bar[4:])])

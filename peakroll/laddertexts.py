"""Ladders written as texts, and read from them."""

from peakroll.checks import need_text
from peakroll.errors import NoLadder, NoText
from peakroll.ladders import Ladder
from peakroll.numbertexts import read_wide


def write_ladder(ladder):
    pieces = [written_piece(ladder.begin(), ladder.parts())]
    for begin, sizes in ladder.rows():
        pieces.append(written_piece(begin, sizes))
    return "; ".join(pieces)


def written_piece(begin, numbers):
    return f"{begin}:" + "".join([f" {number}" for number in numbers])


def read_ladder(text):
    need_text(text)
    pieces = [read_piece(piece) for piece in text.split("; ")]
    begin, parts = pieces[0]
    try:
        return Ladder(begin, parts, pieces[1:])
    except NoLadder:
        raise NoText("what is written there makes no ladder") from None


def read_piece(piece):
    """The pair of a beginning and its parts or sizes."""
    begin, sign, behind = piece.partition(":")
    words = behind.split(" ")
    # One blank stands ahead of each number, so nothing stands ahead of the first blank.
    if sign == "" or words[0] != "":
        raise NoText("a beginning, a colon, and a blank ahead of each number are read")
    return (read_wide(begin), [read_wide(word) for word in words[1:]])

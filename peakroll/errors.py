"""The refusals of the program: each stands straight under PeakError, none under another one."""


class PeakError(ValueError):
    """Any refusal."""


class NoLadder(PeakError):
    """What was handed in makes no ladder."""


class NoMoment(PeakError):
    """What was handed in is no moment."""


class NoRoll(PeakError):
    """What was handed in is no roll of the ladder, or none that can be asked here."""


class NoNumber(PeakError):
    """What was handed in is no bar's number that may be asked."""


class NoText(PeakError):
    """What was handed in is not just what is so written."""


class NoSources(PeakError):
    """What was handed in is no list of sources, or none of the sources that are there."""


class NoTell(PeakError):
    """The source doesn't tell the key."""


class NoTime(PeakError):
    """The later moment isn't later."""


class TooMany(PeakError):
    """There are more pieces than are told."""


class NoLock(PeakError):
    """The bar is shut already, or isn't shut."""


class NoBounds(PeakError):
    """What was handed in is no pair of bounds."""


class NoState(PeakError):
    """What was handed in is no state that a bar can have."""


class NoFloor(PeakError):
    """The floor can't be raised to there."""


class Gone(PeakError):
    """What is asked or given lies in forgotten time."""


class Sealed(PeakError):
    """The key is that of a forgotten entry."""


class NoRow(PeakError):
    """What was handed in is no row of a deed, or no follower's name."""


class NotOpen(PeakError):
    """The moment lies in no open part."""


class Held(PeakError):
    """A shut bar would change."""


class NoDeed(PeakError):
    """There is no deed that can be taken back."""

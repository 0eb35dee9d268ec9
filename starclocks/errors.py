"""The errors of this package: all stand straight under Refused, which keeps what is bad."""


class Refused(ValueError):
    """Something that was handed in is refused; `what` is the thing that is bad."""

    def __init__(self, what):
        self.what = what


class BadSize(Refused):
    """No number of hands of a web."""


class BadRoad(Refused):
    """No road, or no index of a road."""


class BadPart(Refused):
    """No part, or a road that is in no part."""


class NotTwoSided(Refused):
    """A web that has no two sides."""


class BadMeeting(Refused):
    """No meeting, no index of a meeting or no name of one."""


class BadMark(Refused):
    """No mark."""


class BadLogs(Refused):
    """Logs with a fault."""


class BadCut(Refused):
    """No cut, or no bound of cuts."""


class BadHand(Refused):
    """No hand, or a number that a hand cannot have."""


class BadSaved(Refused):
    """No saved counts of a hand."""


class TooMany(Refused):
    """More things than may be handed in, listed or kept."""


class BadCount(Refused):
    """No number of an order."""


class MetHand(Refused):
    """A lost hand at which inner roads meet."""


class Parted(Refused):
    """Copies that differ where both have a row."""


class BadText(Refused):
    """A text with a bad row."""


class NothingToUndo(Refused):
    """No deed stands."""


class NothingToRedo(Refused):
    """No deed is undone."""

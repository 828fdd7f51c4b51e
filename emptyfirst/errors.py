"""The errors of the program. Each keeps, as value, what it was made with."""


class TalkError(ValueError):
    """Any error of this program."""

    def __init__(self, value):
        self.value = value


class InvalidName(TalkError):
    """A text is no name of a service, a line or a word."""


class InvalidStep(TalkError):
    """A step has no sign, or leads to no room."""


class DoubleStep(TalkError):
    """A room has two steps with the same sign, line and word."""


class UnknownName(TalkError):
    """Nothing has this name."""


class DoubleName(TalkError):
    """Two services of a net have one name."""


class DoubleLine(TalkError):
    """A line would stand twice where it may stand once."""


class OpenLine(TalkError):
    """A line stands in no join."""


class Ring(TalkError):
    """A join closes a ring."""


class NotPlain(TalkError):
    """A service is not plain."""


class UnlikeLines(TalkError):
    """Two services do not talk on the same line."""


class NotOrderly(TalkError):
    """A deed clashes."""


class NotThere(TalkError):
    """A deed cannot be done."""


class NothingToUndo(TalkError):
    """No deed can be taken back."""


class Unreadable(TalkError):
    """Nothing has this text."""

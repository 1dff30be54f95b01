"""The refusals: one class for each kind of thing that is not taken."""


class WalkError(ValueError):
    """Any refusal."""


class NoWeb(WalkError):
    """What was handed in is no web."""


class NoPlace(WalkError):
    """What was handed in is no place of the web."""


class NoTree(WalkError):
    """The web is no tree."""


class NoTie(WalkError):
    """What was handed in is no tie such as is asked for."""


class NoText(WalkError):
    """What was handed in is not what is written of a web."""


class NoNumber(WalkError):
    """What was handed in is no number such as is asked for."""


class NoShares(WalkError):
    """What was handed in are no shares of the web."""


class NoTwo(WalkError):
    """The two places are one."""


class NoStream(WalkError):
    """What was handed in is no stream between the two places."""


class NoPaper(WalkError):
    """What was handed in is no paper for the two places."""


class Apart(WalkError):
    """The web would not hang together any more."""


class TooMany(WalkError):
    """The web has too many places."""


class NoCode(WalkError):
    """What was handed in is no code of a tree."""


class NoDeed(WalkError):
    """There is no deed to undo."""


class NoLine(WalkError):
    """What was handed in is no row that a desk takes."""

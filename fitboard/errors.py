"""The refusals of the program, one class for each."""


class BoardError(ValueError):
    """Any refusal."""


class TwiceThere(BoardError):
    """One version of a part stands twice on a shelf."""


class NoEntry(BoardError):
    """A pick is not on the shelf."""


class TwoVersions(BoardError):
    """Two picks are of one part."""

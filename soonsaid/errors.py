"""The refusals of the program."""


class SaidError(ValueError):
    """Any refusal."""


class BadStatement(SaidError):
    """What was handed in is no statement."""


class Mixed(SaidError):
    """A before or a since in the statement looks ahead."""


class TooMany(SaidError):
    """The statement has more wishes than can be told mark by mark."""


class BadMark(SaidError):
    """What was handed in is no mark."""


class NoMark(SaidError):
    """No mark was told yet."""


class BadText(SaidError):
    """What was handed in is not just what is written of a statement."""

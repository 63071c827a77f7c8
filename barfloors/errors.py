"""The refusals of the program: each class stands straight under BarError."""


class BarError(ValueError):
    """Any refusal."""


class NoLength(BarError):
    """What was handed in is no length."""


class NoNumber(BarError):
    """What was handed in is no whole number of those let."""


class NoBars(BarError):
    """What was handed in is no bar, or no bars, of the kind asked for."""


class NoBox(BarError):
    """What was handed in is no box."""


class NoWeights(BarError):
    """What was handed in is no weights."""


class NoSorts(BarError):
    """What was handed in is no sorts."""


class NoTurn(BarError):
    """There is no block at the place handed in."""


class NoPlace(BarError):
    """What was handed in is no place."""


class NoText(BarError):
    """The text handed in writes nothing of the kind asked for."""


class NoRow(BarError):
    """The row told is none that is known."""


class TooMany(BarError):
    """There would be `many` of what may be `most`."""

    def __init__(self, many, most):
        BarError.__init__(self, f"{many} are more than {most}")
        self.many = many
        self.most = most

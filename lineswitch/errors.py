"""The refusals of the program."""


class SwitchError(ValueError):
    """Any refusal."""


class NoBoard(SwitchError):
    """A board was wanted."""


class NoLine(SwitchError):
    """A line's number, or a lot of them, was wanted."""


class NoSwitching(SwitchError):
    """A switching of the board was wanted."""


class NoNumber(SwitchError):
    """A whole number within its bounds was wanted."""


class Unlike(SwitchError):
    """Two things don't have the sizes that they must share."""


class NoNet(SwitchError):
    """A net was wanted."""


class NoPlace(SwitchError):
    """A lot of the net's places was wanted."""


class NoText(SwitchError):
    """A text that writes the thing was wanted."""


class NoRow(SwitchError):
    """A row that the desk knows, or a deed that stands, was wanted."""


class TooMany(SwitchError):
    """There were many, and at most so many may be."""

    def __init__(self, many, most):
        SwitchError.__init__(self, f"{many} are more than {most}")
        self.many = many
        self.most = most

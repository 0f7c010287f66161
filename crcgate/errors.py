"""The refusals: one class for each kind, all of them under GateError."""


class GateError(ValueError):
    """Any refusal."""


class NoRow(GateError):
    """A row is due, and this is none."""


class NoSign(GateError):
    """A sign is due, and this is none."""


class NoDivisor(GateError):
    """A divisor is due, and this row is none."""


class NoCount(GateError):
    """A number of signs is due, and this is none."""


class TooLong(GateError):
    """There are more signs than there may be."""


class TooShort(GateError):
    """There are fewer signs than there must be."""


class Broken(GateError):
    """The row does not hold."""


class NoMate(GateError):
    """This cannot be joined."""


class NoText(GateError):
    """A text of letters is due, and this is none."""

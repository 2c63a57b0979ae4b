"""The errors that the package raises."""


class MarkError(ValueError):
    """The base class of all errors of the package."""


class InvalidMarks(MarkError):
    """A ring has an invalid mark, the first one at this position."""

    def __init__(self, position):
        MarkError.__init__(self, f"invalid mark at position {position}")
        self.position = position


class InvalidSteps(MarkError):
    """The steps of a ring are invalid, first at this position."""

    def __init__(self, position):
        MarkError.__init__(self, f"invalid step at position {position}")
        self.position = position


class InvalidPins(MarkError):
    """The pinned seats are invalid."""


class InvalidMove(MarkError):
    """The entry at this position cannot be reflected, for this reason."""

    def __init__(self, position, reason):
        MarkError.__init__(self, f"invalid move at position {position}: {reason}")
        self.position = position
        self.reason = reason


class NotReachable(MarkError):
    """No reflections lead from the first ring to the second one."""


class TooFar(MarkError):
    """The shortest list of reflections is longer than the limit."""


class InvalidLimit(MarkError):
    """The limit is invalid."""


class InvalidIndex(MarkError):
    """The seat or the rank does not exist."""


class TooManyRings(MarkError):
    """Too many rings are reachable."""


class InvalidTimes(MarkError):
    """The number of times is invalid."""


class Contradiction(MarkError):
    """No candidate agrees with the observation."""


class InvalidName(MarkError):
    """The name of a snapshot is invalid."""


class UnknownName(MarkError):
    """There is no snapshot of this name."""


class InvalidOperation(MarkError):
    """The operation at this position is malformed or fails."""

    def __init__(self, position):
        MarkError.__init__(self, f"invalid operation at position {position}")
        self.position = position


class InvalidText(MarkError):
    """The text of a session is invalid, first in this line."""

    def __init__(self, line):
        MarkError.__init__(self, f"invalid text in line {line}")
        self.line = line


class InvalidSign(MarkError):
    """The sign is invalid."""


class InvalidAmount(MarkError):
    """The amount is invalid."""

"""More classes of errors: those of bounds, calls, halves, unknowns and records."""

from kindsunder.errors import KindError


class InvalidBounds(KindError):
    """A value is not bounds."""


class InvalidSide(KindError):
    """A value is not a side of bounds."""


class InvalidCall(KindError):
    """A value is not a call."""


class InvalidChoice(KindError):
    """A value is not a choice for the call."""


class InvalidHalf(KindError):
    """A value is not a half."""


class InvalidCrossing(KindError):
    """A value is not a crossing."""


class NotARecord(KindError):
    """A value is not a record."""


class InvalidUnknown(KindError):
    """A value is not the number of an unknown."""

    def __init__(self, number):
        KindError.__init__(self, "this is not the number of an unknown")
        self.number = number


class Barred(KindError):
    """A call has a bar."""

    def __init__(self, pairs):
        KindError.__init__(self, "the call is barred")
        self.pairs = pairs


class Barren(KindError):
    """Bounds have no keeper."""

    def __init__(self, floors):
        KindError.__init__(self, "no type keeps the bounds")
        self.floors = floors

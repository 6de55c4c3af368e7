"""The errors of the package, a class for each kind of wrong argument."""


class KindError(ValueError):
    """Any error of this package."""


class InvalidTable(KindError):
    """A value is not a table."""


class InvalidType(KindError):
    """A value is not a type of the table."""


class InvalidClass(KindError):
    """A value is not the number of a class."""


class InvalidParameter(KindError):
    """A value is not the number of a parameter of the class."""


class InvalidSign(KindError):
    """A value is not a sign."""


class InvalidPlace(KindError):
    """A value is not a place."""


class InvalidArguments(KindError):
    """A value is not a tuple of as many types as may be put into a type."""


class InvalidTypes(KindError):
    """A value is not a tuple of as many types as are taken."""


class InvalidNumber(KindError):
    """A value is not a number within its limits."""


class InvalidRows(KindError):
    """Two values are not derivations that meet in one type."""


class InvalidProgram(KindError):
    """A value is not a program for the table."""


class NotInOrder(KindError):
    """The table is not in order."""


class NotTame(KindError):
    """The table is not tame."""


class NotACertificate(KindError):
    """A value is not a certificate."""


class Unsound(KindError):
    """The table has a fault."""

    def __init__(self, fault):
        KindError.__init__(self, "the table has a fault")
        self.fault = fault


class InvalidWatch(KindError):
    """A value is not the number of a watched pair."""

    def __init__(self, number):
        KindError.__init__(self, "this is not the number of a watched pair")
        self.number = number


class InvalidMark(KindError):
    """A value is not the number of a mark."""

    def __init__(self, number):
        KindError.__init__(self, "this is not the number of a mark")
        self.number = number


class Full(KindError):
    """There are as many of a kind as there may be."""

    def __init__(self, limit):
        KindError.__init__(self, "there are as many of these as there may be")
        self.limit = limit

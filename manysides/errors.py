"""The errors of the program. Each one tells its place and its name."""


class ManysidesError(ValueError):
    """The base class of all errors."""

    def __init__(self, place):
        self.place = place
        self.name = self.__class__.__name__


class InvalidText(ManysidesError):
    """An octet is not the code of a character of a text."""


class InvalidShape(ManysidesError):
    """A dimension or an attribute of a shape is wrong."""


class InvalidCell(ManysidesError):
    """A cell of an array does not fit its shape."""


class InvalidQuery(ManysidesError):
    """An expression has no kind, or a query has no shape."""


class InvalidWords(ManysidesError):
    """A text is not that of a query or an expression."""


class InvalidVersion(ManysidesError):
    """A version is not there."""


class Truncated(ManysidesError):
    """Octets end too early."""


class Damaged(ManysidesError):
    """Octets are not what they must be."""


class PowerLost(ManysidesError):
    """A disk does no more deeds."""


class LineCut(ManysidesError):
    """A line carries no more messages."""

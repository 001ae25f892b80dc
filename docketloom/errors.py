"""The errors of the package."""


class DocketError(ValueError):
    """What every error of this package is."""


class OutOfRange(DocketError):
    """A number is outside of its bounds."""


class Malformed(DocketError):
    """A value is not built as it should be."""


class NotThere(DocketError):
    """Something is asked for by a name or a number and does not exist."""


class Refused(DocketError):
    """The rules do not allow it."""


class TooMuch(DocketError):
    """The work for this input would be too much."""

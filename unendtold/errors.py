"""The errors of the package."""


class UnendtoldError(ValueError):
    """The base class of all errors of the package."""


class TooManyValues(UnendtoldError):
    """A reader would have more than 300 values."""


class TooManyLines(UnendtoldError):
    """A formula would have more than 5000 lines."""


class InvalidWord(UnendtoldError):
    """A word of a written formula or condition cannot be read."""

    def __init__(self, number):
        self.number = number


class UnknownName(UnendtoldError):
    """A workbench has no sentence with a name."""


class NotFitting(UnendtoldError):
    """A machine would not be one."""

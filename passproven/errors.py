"""The errors that several parts of the package share."""


class PassError(ValueError):
    """The base of all errors of the package."""


class TextError(PassError):
    """An error in a text, at a position counted from 0."""

    def __init__(self, position):
        self.position = position


class BadTerm(TextError):
    """A token that is invalid or does not continue any term."""


class TooDeep(TextError):
    """An open sign behind too many others that are still open."""


class TooLong(PassError):
    """A text with too many characters."""


class TooLarge(PassError):
    """A term with too many parts, or one that is too high."""

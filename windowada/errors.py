"""The errors that the package raises."""


class AdaError(ValueError):
    """The base class of all errors that the package raises."""


class SourceError(AdaError):
    """The base class of the errors of a text, with the line and the column of the error."""

    def __init__(self, message, place):
        super().__init__(message)
        self.line, self.column = place


class ScanError(SourceError):
    """The text cannot be divided into tokens."""


class ParseError(SourceError):
    """The tokens are no program."""


class TooLarge(SourceError):
    """A bound is exceeded."""


class CheckError(SourceError):
    """The base class of the errors of a program that breaks a rule."""


class UnknownName(CheckError):
    """A name has no visible declaration."""


class DuplicateName(CheckError):
    """A name is declared, or an exception handled, for a second time."""


class WrongKind(CheckError):
    """A name or an expression is not what its position needs."""


class WrongMode(CheckError):
    """What is to be changed cannot be changed."""


class BadRange(CheckError):
    """Bounds are the wrong way round or outside of a range."""


class Misplaced(CheckError):
    """A statement or a handler stands where it may not stand."""


class CodeError(AdaError):
    """A module of intermediate code is not well formed."""


class ImageError(AdaError):
    """An instruction cannot be encoded."""

"""The errors of the package: each is a FormatfitError, none of them is another one of them."""


class FormatfitError(ValueError):
    """What all errors of the package have in common."""


class SignError(FormatfitError):
    """No text of a value goes on with the character at this place."""

    def __init__(self, place):
        self.place = place


class LineError(FormatfitError):
    """The line with this number, from 1, is none of a format."""

    def __init__(self, line):
        self.line = line


class BrokenPromise(FormatfitError):
    """A format breaks the promise of a registry towards this version."""

    def __init__(self, version):
        self.version = version


class NoSuchVersion(FormatfitError):
    """A registry has no version with this number."""

    def __init__(self, number):
        self.number = number


class PowerCut(FormatfitError):
    """A device lost its power with this number of octets on it."""

    def __init__(self, written):
        self.written = written


class EndError(FormatfitError):
    """A text is only the beginning of a text of a value."""


class BadValue(FormatfitError):
    """A text has the form of a value, but is beyond the bounds of values."""


class BadFormat(FormatfitError):
    """What has the form of a format is none."""


class TooLarge(FormatfitError):
    """A value has a size above the bound."""


class CannotRead(FormatfitError):
    """The reader cannot read the writer."""


class TooMany(FormatfitError):
    """A registry has as many versions as it may have."""


class ShutError(FormatfitError):
    """A journaled registry lost its power and takes no further change."""

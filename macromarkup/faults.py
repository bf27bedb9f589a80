"""The refusals of the program, one class for each, and the nine kinds of error in a text."""

NOT_CLOSED = 1
NOT_OPENED = 2
UNKNOWN_NAME = 3
MISSING = 4
INVALID = 5
TOO_MANY = 6
BAD_DEFINITION = 7
NO_COUNTER = 8
NOT_ALLOWED = 9


class BadBytes(Exception):
    """A text isn't valid UTF-8."""


class TextFault(Exception):
    """A text has an error of a kind from 1 to 9 at a position."""

    def __init__(self, kind, position):
        self.kind = kind
        self.position = position


class BadNotation(Exception):
    """A tree isn't the notation of a document."""


class NotExpressible(Exception):
    """A document has losses, so it has no text."""


class TooDeep(Exception):
    """The lists of a notation would be nested too deeply."""

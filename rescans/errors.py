"""The errors of the package: each one stands directly under ScanError."""


class ScanError(ValueError):
    """Any error of the package."""


class TooMany(ScanError):
    """There would be more than the limit."""

    def __init__(self, limit):
        self.limit = limit


class SyntaxProblem(ScanError):
    """A text does not go on at this line and column, both counted from 1."""

    def __init__(self, line, column):
        self.line = line
        self.column = column


class NoOutcome(ScanError):
    """There is no outcome or value: the kind tells why, the thread where."""

    def __init__(self, kind, thread):
        self.kind = kind
        # The caller may go on with its own list; the error keeps what it was told.
        self.thread = list(thread) if isinstance(thread, list) else thread


class NoExpander(ScanError):
    """Something in the place of an expander is none."""


class NoText(ScanError):
    """Something in the place of a text, a word or a place in one is none."""


class NoCall(ScanError):
    """A state and a sign are no call of the expander."""


class NoName(ScanError):
    """No expander is kept under a name."""


class NoMark(ScanError):
    """There is nothing to undo or to do again, or no live text."""


class Mismatch(ScanError):
    """Two things do not go together, or one is not of the form that is asked for."""


class InvalidCommand(ScanError):
    """A line is no command."""

"""The errors of the package, one class for each kind of failure."""


class UntoldError(ValueError):
    """The parent of all errors that the package raises on purpose."""


class BadSetting(UntoldError):
    """A setting is none."""


class BadProgram(UntoldError):
    """A program, or a text of one, is none: its first wrong line and why."""

    def __init__(self, line, reason):
        UntoldError.__init__(self, f"line {line}: {reason}")
        self.line = line
        self.reason = reason


class BadEntry(UntoldError):
    """Something is wrong at a place."""

    def __init__(self, place):
        UntoldError.__init__(self, f"wrong at {place}")
        self.place = place


class BadState(UntoldError):
    """What is asked for does not go together."""


class TooGreat(UntoldError):
    """There is too much to try."""

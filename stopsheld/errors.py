"""The errors of the package; each one tells by its fields what was wrong, and where."""


class StopsError(ValueError):
    """The base of all other errors of the package."""


class BadProgram(StopsError):
    """A text that is no program."""

    def __init__(self, line, reason):
        StopsError.__init__(self, f"line {line}: {reason}")
        self.line = line
        self.reason = reason


class BadCode(StopsError):
    """A text that is no code, or no listing."""

    def __init__(self, line, reason):
        StopsError.__init__(self, f"line {line}: {reason}")
        self.line = line
        self.reason = reason


class Clash(StopsError):
    """An assignment that has a conflict."""

    def __init__(self):
        StopsError.__init__(self, "two variables that clash have the same location")


class BadPaper(StopsError):
    """A paper that is not right for a program and code."""

    def __init__(self, block, place, reason):
        StopsError.__init__(self, f"block {block}, place {place}: {reason}")
        self.block = block
        self.place = place
        self.reason = reason


class BadArgument(StopsError):
    """An argument of the right kind that cannot be taken now."""

    def __init__(self, reason):
        StopsError.__init__(self, f"argument: {reason}")
        self.reason = reason


class BadJournal(StopsError):
    """A text that is no journal."""

    def __init__(self, place):
        StopsError.__init__(self, f"line {place} of the journal")
        self.place = place

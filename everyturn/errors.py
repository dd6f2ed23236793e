"""The errors that the functions of the program raise."""


class TurnError(ValueError):
    """The base class of all these errors."""


class ProgramFault(TurnError):
    """The first fault of a program text: its line, and a word for its kind."""

    def __init__(self, line, word):
        TurnError.__init__(self, f"line {line}: {word}")
        self.line = line
        self.word = word


class NotEnabled(TurnError):
    """A schedule has a thread that cannot make a step in its turn: the index of this turn."""

    def __init__(self, at):
        TurnError.__init__(self, f"turn {at} has a thread that is not enabled")
        self.at = at


class TooMany(TurnError):
    """A search found more than it may: the limit."""

    def __init__(self, limit):
        TurnError.__init__(self, f"more than {limit}")
        self.limit = limit


class NoSuchPlace(TurnError):
    """An argument names what is not there: a word that tells which argument."""

    def __init__(self, word):
        TurnError.__init__(self, f"no such {word}")
        self.word = word


class NothingToUndo(TurnError):
    """Each change is undone already."""

"""The refusals: each straight under ToldError, with the value that was handed in."""


class ToldError(ValueError):
    """What all refusals are."""


class NoDeed(ToldError):
    """It is no deed."""

    def __init__(self, deed):
        self.deed = deed


class NotLet(ToldError):
    """The guard does not let the deed at its place."""

    def __init__(self, deed):
        self.deed = deed


class NotHeld(ToldError):
    """It is none of the notes that are held."""

    def __init__(self, note):
        self.note = note


class NotCame(ToldError):
    """It is none of the notes that came."""

    def __init__(self, note):
        self.note = note


class TooMany(ToldError):
    """There are more than the most that was asked for."""

    def __init__(self, most):
        self.most = most


class NoText(ToldError):
    """The text cannot be read: row is the number of the row where it goes wrong."""

    def __init__(self, row):
        self.row = row


class NoLine(ToldError):
    """It is no line that can be said."""

    def __init__(self, line):
        self.line = line


class NoPair(ToldError):
    """The deeds of two programs are not the same."""

    def __init__(self):
        pass


class NoPlace(ToldError):
    """The other program cannot go on in this one's place."""

    def __init__(self):
        pass


class NothingDone(ToldError):
    """There is nothing that could be taken back."""

    def __init__(self):
        pass


class NoFit(ToldError):
    """Two programs, joined, would be more than a program may be."""

    def __init__(self):
        pass

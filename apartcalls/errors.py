"""The errors of the package.

Each hands a fixed text on to its base class, so that its text never depends on what was passed, however large that is.
"""


class InvalidNumber(ValueError):
    """A number of seats, calls or rounds that is not as asked for; `number` is what was passed."""

    def __init__(self, number):
        ValueError.__init__(self, "not a whole number that may stand here")
        self.number = number


class InvalidTies(ValueError):
    """Ties that are not as asked for; `index` is that of the first wrong one, or None."""

    def __init__(self, index):
        ValueError.__init__(self, "not a list of ties of two seats, no two seats twice")
        self.index = index


class InvalidStanding(ValueError):
    """A standing that is not as asked for; `index` is that of the first wrong person, or None."""

    def __init__(self, index):
        ValueError.__init__(self, "not a list of all people, each once")
        self.index = index


class InvalidOrder(ValueError):
    """An order that is not as asked for; `index` is that of the first wrong call, or None."""

    def __init__(self, index):
        ValueError.__init__(self, "not a list of all calls, each once")
        self.index = index


class InvalidBreaks(ValueError):
    """Breaks that are not as asked for; `index` is that of the first wrong one, or None."""

    def __init__(self, index):
        ValueError.__init__(self, "not a list of different calls, at least one and not all")
        self.index = index


class InvalidCalls(ValueError):
    """Calls that are not as asked for; `index` is that of the first wrong one, or None."""

    def __init__(self, index):
        ValueError.__init__(self, "not a list of calls")
        self.index = index


class UnknownCall(LookupError):
    """A call that there is not; `number` is what was passed."""

    def __init__(self, number):
        LookupError.__init__(self, "not a call")
        self.number = number


class NothingToUndo(LookupError):
    """There is no deed that could be taken back."""

"""The errors of the package, each with its values as attributes."""


class NoCell(LookupError):
    """No CELL has this number."""

    def __init__(self, number):
        LookupError.__init__(self, f"no cell has the number {number}")
        self.number = number


class NoWord(LookupError):
    """Nothing is called by this word."""

    def __init__(self, word):
        LookupError.__init__(self, f"nothing is called {word}")
        self.word = word


class NothingDone(LookupError):
    """There is no deed to take back, or to do again."""


class Unfit(ValueError):
    """The arguments do not go together, or one is not as it must be."""


class NoPaper(ValueError):
    """There is no such paper."""


class TooMany(ValueError):
    """They are too many to be listed."""


class BadText(ValueError):
    """The text is wrong from this place on."""

    def __init__(self, place):
        ValueError.__init__(self, f"the text is wrong at place {place}")
        self.place = place


class BadLine(ValueError):
    """The text is wrong from this line on."""

    def __init__(self, number):
        ValueError.__init__(self, f"the text is wrong in line {number}")
        self.number = number

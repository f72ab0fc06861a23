"""The errors of surelyread, one class for each kind of failure."""


class PageError(ValueError):
    """The base of all other errors."""


class Fault(PageError):
    """A text is no image or no grammar: the place where it cannot go on, and why."""

    def __init__(self, line, column, reason):
        PageError.__init__(self, f"line {line}, column {column}: {reason}")
        self.line = line
        self.column = column
        self.reason = reason


class TooLarge(PageError):
    """Something is larger than its bound; the reason says what."""

    def __init__(self, reason):
        PageError.__init__(self, f"too large: {reason}")
        self.reason = reason


class BadNumbers(PageError):
    """A list of numbers is no packed page; the place is an index in the list."""

    def __init__(self, place):
        PageError.__init__(self, f"no packed page: index {place}")
        self.place = place


class BadRegion(PageError):
    """A region is none that can be wished or asked."""


class BadReading(PageError):
    """There is no such reading."""


class BadWords(PageError):
    """The words are no lexicon."""


class OutsideImage(PageError):
    """A patch would lie outside of the image."""


class TooMany(PageError):
    """There are more leaves, wishes or bounds than can be told or kept."""

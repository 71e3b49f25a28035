"""The errors of this package; each keeps, as attributes, what it was created from.

No message shows these values: an error may keep any value, also one that has no text,
such as an integer with more digits than Python is willing to write.
"""


class MeanError(ValueError):
    """What all other errors of this package derive from."""


class BadText(MeanError):
    """A text that is wrong at a column; the column 0 is for what is no text."""

    def __init__(self, column):
        super().__init__("the text is wrong at this column")
        self.column = column


class BadLine(MeanError):
    """A text of lines that is wrong at a line and a column."""

    def __init__(self, line, column):
        super().__init__("the text is wrong at this line and column")
        self.line = line
        self.column = column


class BadNumber(MeanError):
    """A value that cannot be the number that it stands for."""

    def __init__(self, what, number):
        super().__init__("the value cannot be this number")
        self.what = what
        self.number = number


class BadRow(MeanError):
    """A value that is not the row that is asked for."""

    def __init__(self, row):
        super().__init__("the value is not the row that is asked for")
        self.row = row


class BadInterval(MeanError):
    """Two values that are not the ends of a stretch."""

    def __init__(self, low, high):
        super().__init__("the values are not the ends of a stretch")
        self.low = low
        self.high = high


class BadName(MeanError):
    """A value that cannot be a name."""

    def __init__(self, name):
        super().__init__("the value cannot be a name")
        self.name = name


class Unlike(MeanError):
    """Values that do not fit each other, or what is asked of them."""

    def __init__(self, what):
        super().__init__("the values do not fit each other")
        self.what = what


class NoName(MeanError):
    """A name that nothing has."""

    def __init__(self, name):
        super().__init__("nothing has this name")
        self.name = name


class TakenName(MeanError):
    """A name that something has already."""

    def __init__(self, name):
        super().__init__("something has this name already")
        self.name = name


class NotKept(MeanError):
    """A promise that is not kept, with the witness of this."""

    def __init__(self, promise, witness):
        super().__init__("the promise is not kept")
        self.promise = promise
        self.witness = witness


class NothingToUndo(MeanError):
    """No edit can be taken back."""


class NothingToRedo(MeanError):
    """No edit can be done again."""

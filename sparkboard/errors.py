"""All errors of the package. Each keeps its fields just as they are."""


class SparkError(ValueError):
    """The error from which all others derive."""


class BadText(SparkError):
    """A promise that is wrong from a column on, from 1; 0 for what is no string."""

    def __init__(self, column):
        self.column = column


class BadLine(SparkError):
    """A text that is wrong at a line and a column, both from 1; 0 and 0 for what is no string."""

    def __init__(self, line, column):
        self.line = line
        self.column = column


class BadNumber(SparkError):
    """A number that is none of those that may stand for what."""

    def __init__(self, what, number):
        self.what = what
        self.number = number


class BadRow(SparkError):
    """A row that is not as it must be."""

    def __init__(self, row):
        self.row = row


class BadName(SparkError):
    """What is no name, or no kind."""

    def __init__(self, name):
        self.name = name


class BadCell(SparkError):
    """A cell that is none of those that it must be one of."""

    def __init__(self, cell):
        self.cell = cell


class BadGate(SparkError):
    """The gate of this number, from 0 on, is none."""

    def __init__(self, index):
        self.index = index


class BadTile(SparkError):
    """The tile of these numbers is none, or stands where it must not."""

    def __init__(self, stage, tile):
        self.stage = stage
        self.tile = tile


class NoName(SparkError):
    """A name that nothing bears."""

    def __init__(self, name):
        self.name = name


class TakenName(SparkError):
    """A name that something else bears already."""

    def __init__(self, name):
        self.name = name


class Unlike(SparkError):
    """Two things that differ in what they must have in common."""

    def __init__(self, what):
        self.what = what


class NotKept(SparkError):
    """A promise that is not kept, and what shows it."""

    def __init__(self, promise, witness):
        self.promise = promise
        self.witness = witness


class NothingToUndo(SparkError):
    """There is no edit to take back."""

    def __init__(self):
        pass


class NothingToRedo(SparkError):
    """There is no edit to make again."""

    def __init__(self):
        pass

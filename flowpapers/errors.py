"""The errors of the package; each keeps its fields just as they are."""


class FlowError(ValueError):
    """What all errors of the package derive from."""


class BadText(FlowError):
    """A text that is wrong behind the column ahead of this one."""

    def __init__(self, column):
        self.column = column


class BadLine(FlowError):
    """A text of items with a wrong line."""

    def __init__(self, line, column):
        self.line = line
        self.column = column


class BadNumber(FlowError):
    """A number that is not what is asked for."""

    def __init__(self, what, number):
        self.what = what
        self.number = number


class BadRow(FlowError):
    """A row that is not what is asked for."""

    def __init__(self, row):
        self.row = row


class BadName(FlowError):
    """What is no name."""

    def __init__(self, name):
        self.name = name


class Shared(FlowError):
    """A field whose two polynomials have a common divisor."""

    def __init__(self, plane):
        self.plane = plane


class NoRest(FlowError):
    """A place at which the field does not rest."""

    def __init__(self, place):
        self.place = place


class NotRound(FlowError):
    """A rest with another word than round."""


class NoName(FlowError):
    """A name that nothing has."""

    def __init__(self, name):
        self.name = name


class TakenName(FlowError):
    """A name that something has already."""

    def __init__(self, name):
        self.name = name


class NotKept(FlowError):
    """A promise that is not kept, and what shows it."""

    def __init__(self, promise, witness):
        self.promise = promise
        self.witness = witness


class NothingToUndo(FlowError):
    """No edit stands that could be taken back."""


class NothingToRedo(FlowError):
    """No edit was taken back that could be done again."""

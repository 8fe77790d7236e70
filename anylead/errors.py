"""The errors that the package raises, one class for each kind of failure."""


class LeadError(ValueError):
    """The base of all errors of the package."""


class BadNumber(LeadError):
    """A number is no integer, or lies outside of what is asked for."""

    def __init__(self, what, value):
        self.what = what
        self.value = value


class BadBook(LeadError):
    """A part of a book is not as described, at this index of it or as a whole."""

    def __init__(self, what, index):
        self.what = what
        self.index = index


class BadPlace(LeadError):
    """A value is no place."""

    def __init__(self, value):
        self.value = value


class BadRow(LeadError):
    """A value is no row of the kind that is asked for."""

    def __init__(self, value):
        self.value = value


class BadText(LeadError):
    """A text is wrong from this line and column on."""

    def __init__(self, line, column):
        self.line = line
        self.column = column


class BadName(LeadError):
    """A value is no name."""

    def __init__(self, name):
        self.name = name


class NoName(LeadError):
    """Nothing has this name."""

    def __init__(self, name):
        self.name = name


class TakenName(LeadError):
    """Something has this name already."""

    def __init__(self, name):
        self.name = name


class NoMove(LeadError):
    """A value is no move that can be made."""

    def __init__(self, value):
        self.value = value


class Unlike(LeadError):
    """Two things do not belong together."""

    def __init__(self, what):
        self.what = what


class TooMany(LeadError):
    """There are more of these than the limit allows."""

    def __init__(self, what, limit):
        self.what = what
        self.limit = limit


class NotKept(LeadError):
    """A promise is not kept, as the witness shows."""

    def __init__(self, promise, witness):
        self.promise = promise
        self.witness = witness


class BadPromise(LeadError):
    """A text is no promise, from this column on."""

    def __init__(self, column):
        self.column = column


class NothingToUndo(LeadError):
    """There is no edit to take back."""


class NothingToRedo(LeadError):
    """There is no edit to do again."""

"""The errors of the program; each holds in `value` what is wrong."""


class TableError(ValueError):
    """Every error of the program."""

    def __init__(self, value):
        self.value = value


class InvalidNumber(TableError):
    """A tuple that is no number, or an integer outside what is allowed."""


class InvalidRow(TableError):
    """A row of a wrong size, or a list of a wrong count."""


class InvalidTable(TableError):
    """Products that are not n lists of n rows of n numbers."""


class InvalidSpan(TableError):
    """A list of rows that is no form of a span, or not one that is wanted."""


class InvalidBasis(TableError):
    """Rows that are no basis."""


class UnlikeSizes(TableError):
    """The size of the other one of two that must be alike."""


class InvalidTerm(TableError):
    """A term that is not allowed."""


class InvalidLetter(TableError):
    """A letter that is none from a to z."""


class NotLinear(TableError):
    """A term that is not many-linear in its letters."""


class NotTwoSided(TableError):
    """A span that is not two-sided."""


class NotWithin(TableError):
    """A span that is no part."""


class InvalidMap(TableError):
    """Rows that are no map of the sizes wanted."""


class InvalidForm(TableError):
    """Rows that are no form of the size wanted."""


class InvalidKind(TableError):
    """A text that names no kind."""


class InvalidTicket(TableError):
    """A ticket, or a line of one, that is wrong."""


class InvalidUnit(TableError):
    """A place at which there is no unit."""


class WrongKind(TableError):
    """A name of a span where a row is wanted, or the other way."""


class InvalidName(TableError):
    """A text that is no name."""


class DoubleName(TableError):
    """A name that is there already."""


class UnknownName(TableError):
    """A name that is not there."""


class NothingToUndo(TableError):
    """There is no call to take back."""


class Unreadable(TableError):
    """A text that cannot be read."""

"""The errors of the package. Each one keeps what it was created with."""


class CountError(ValueError):
    """The base class of all errors of the package."""


class InvalidText(CountError):
    """A text is not in the required form: the number of its first wrong row, from 0."""

    def __init__(self, row):
        self.row = row


class UnknownTable(CountError):
    """No table has this name."""

    def __init__(self, name):
        self.name = name


class UnknownAlias(CountError):
    """No alias has this name."""

    def __init__(self, name):
        self.name = name


class NeededAlias(CountError):
    """A report cannot be without this alias."""

    def __init__(self, name):
        self.name = name


class WrongRow(CountError):
    """A value is no row of its table."""

    def __init__(self, row):
        self.row = row


class PresentRow(CountError):
    """A row is inserted that the table has."""

    def __init__(self, row):
        self.row = row


class MissingRow(CountError):
    """A row is deleted that the table does not have."""

    def __init__(self, row):
        self.row = row


class Violation(CountError):
    """A database would not be valid: one of its violations."""

    def __init__(self, found):
        self.found = found


class TransactionOpen(CountError):
    """There is an open transaction."""


class TransactionClosed(CountError):
    """The transaction is not open any more."""


class PromiseBroken(CountError):
    """A report does not keep a promise that it is required to keep: its name and the answer no."""

    def __init__(self, promise, answer):
        self.promise = promise
        self.answer = answer


class TooMany(CountError):
    """There are already as many as there may be."""

    def __init__(self, limit):
        self.limit = limit


class UnknownNumber(CountError):
    """Nothing has this number."""

    def __init__(self, number):
        self.number = number


class UnknownColumn(CountError):
    """A value is no column of the report."""

    def __init__(self, column):
        self.column = column


class TooManyColumns(CountError):
    """A report has too many open columns: their number."""

    def __init__(self, count):
        self.count = count


class OtherReports(CountError):
    """Two reports cannot be compared."""


class GuardBroken(CountError):
    """A guard would not hold: its number and what breaks it."""

    def __init__(self, number, found):
        self.number = number
        self.found = found

"""The errors of the package. Each one keeps the very objects that it was created from."""


class RowError(ValueError):
    """The base of all errors about rows, edits and texts."""


class NoRows(RowError):
    """No row was passed."""


class TooLong(RowError):
    """There would be more than limit places."""

    def __init__(self, limit):
        self.limit = limit


class NotFoldable(RowError):
    """A value is not a foldable row."""


class BadRow(RowError):
    """A value is not a row; error is the result of row_error."""

    def __init__(self, error):
        self.error = error


class HasFour(RowError):
    """A row is not foldable: the four places have one of the two forms."""

    def __init__(self, places):
        self.places = places


class TooManyEdits(RowError):
    """As many edits stand as a bench may have."""


class LastOne(RowError):
    """The only entry of a row cannot be removed."""


class NothingToUndo(RowError):
    """No edit stands."""


class BadOrder(RowError):
    """The place first is greater than the place last."""

    def __init__(self, first, last):
        self.first = first
        self.last = last


class BadEdits(RowError):
    """A value is not a list or tuple of edits, or it has too many items."""


class BadEdit(RowError):
    """The item at index is not an edit."""

    def __init__(self, index):
        self.index = index


class Rejected(RowError):
    """The edit at index raised an error, so the run was undone."""

    def __init__(self, index):
        self.index = index


class Busy(RowError):
    """The bench is in the middle of a run."""


class BadText(RowError):
    """A value is not the text that was expected; error says where or why."""

    def __init__(self, error):
        self.error = error


class NoPlaces(LookupError):
    """A value is not an ascending tuple of one or more places."""

    def __init__(self, value):
        self.value = value


class NoBlock(LookupError):
    """A value is not a block of the row."""

    def __init__(self, value):
        self.value = value


class NoPath(LookupError):
    """A value does not lead to a part of the tree."""

    def __init__(self, value):
        self.value = value


class NoFold(LookupError):
    """A value is not a fold of the row."""

    def __init__(self, value):
        self.value = value


class NoIndex(LookupError):
    """A value is not the index of a foldable row."""

    def __init__(self, value):
        self.value = value


class NoPlace(LookupError):
    """A value is not a place."""

    def __init__(self, value):
        self.value = value


class NoNumber(LookupError):
    """A value is not a number of the row."""

    def __init__(self, value):
        self.value = value


class NoVersion(LookupError):
    """A value is not a version of the bench."""

    def __init__(self, value):
        self.value = value

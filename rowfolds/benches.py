"""Benches: a row that is edited, and whose edits can be undone."""

from rowfolds.bounds import BATCH, EDITS, MAX_PLACES
from rowfolds.errors import (
    BadEdit, BadEdits, BadOrder, BadRow, Busy, HasFour, LastOne, NoNumber, NoPlace, NothingToUndo, NoVersion, Rejected,
    RowError, TooLong, TooManyEdits,
)
from rowfolds.folds import find_four, rest_of
from rowfolds.rows import pattern_of, reversed_row, row_error
from rowfolds.texts import parse_row
from rowfolds.trees import tree_of
from rowfolds.values import is_index


def with_exchanged(row, place):
    """Return the row after exchange(place)."""
    if not is_index(place, len(row) - 1):
        raise NoPlace(place)
    return with_turned(row, place, place + 1)


def with_inserted(row, place, number):
    """Return the row after insert(place, number)."""
    if not is_index(place, len(row) + 1):
        raise NoPlace(place)
    if not is_index(number, len(row) + 1):
        raise NoNumber(number)
    if len(row) >= MAX_PLACES:
        raise TooLong(MAX_PLACES)
    others = tuple([other + 1 if other >= number else other for other in row])
    return others[:place] + (number,) + others[place:]


def with_removed(row, place):
    """Return the row after remove(place)."""
    if not is_index(place, len(row)):
        raise NoPlace(place)
    if len(row) == 1:
        raise LastOne()
    return pattern_of(row[:place] + row[place + 1:])


def with_turned(row, first, last):
    """Return the row after turn(first, last)."""
    if not is_index(first, len(row)):
        raise NoPlace(first)
    if not is_index(last, len(row)):
        raise NoPlace(last)
    if first > last:
        raise BadOrder(first, last)
    return row[:first] + reversed_row(row[first:last + 1]) + row[last + 1:]


CHANGES = {"exchange": with_exchanged, "insert": with_inserted, "remove": with_removed, "turn": with_turned}

# How many arguments the editing methods take.
ARGUMENTS = {"exchange": 1, "insert": 2, "remove": 1, "turn": 2}


def row_after(row, edit):
    """Return the row after an edit of it."""
    word, *arguments = edit
    change = CHANGES[word]
    return change(row, *arguments)


def require_foldable(row):
    """Raise HasFour if the row has a four."""
    places = find_four(row)
    if places is not None:
        raise HasFour(places)


class Bench:
    """A row, and the edits of it that stand."""

    MOST_EDITS = 60
    WORDS = ("exchange", "insert", "remove", "turn")

    def __init__(self, row):
        error = row_error(row)
        if error is not None:
            raise BadRow(error)
        # The rows of all versions, from 0 to the current one.
        self.states = (row,)
        self.done = ()
        self.busy = False

    @classmethod
    def read(cls, text):
        """Return a bench with the row of a text."""
        return cls(parse_row(text))

    @staticmethod
    def is_edit(value):
        """Return whether any value is an edit, whatever its arguments are."""
        if not isinstance(value, tuple) or len(value) == 0 or value[0] not in Bench.WORDS:
            return False
        return len(value) == 1 + ARGUMENTS[value[0]]

    def exchange(self, place):
        """Exchange the entries at place and place + 1, and return the new version."""
        return self.edit_once(("exchange", place))

    def insert(self, place, number):
        """Add an entry with that number before the entry at place, and return the new version."""
        return self.edit_once(("insert", place, number))

    def remove(self, place):
        """Remove the entry at place, and return the new version."""
        return self.edit_once(("remove", place))

    def turn(self, first, last):
        """Put the entries from first to last in opposite order, and return the new version."""
        return self.edit_once(("turn", first, last))

    def undo(self):
        """Remove the last edit that stands, and return the new version."""
        self.require_idle()
        if len(self.done) == 0:
            raise NothingToUndo()
        self.states, self.done = self.states[:-1], self.done[:-1]
        return self.finish("undo")

    def run(self, edits, *, on_step=None):
        """Do all of the edits or none, with a call of on_step after each one, and return the new version."""
        self.require_idle()
        # A copy, so that on_step may change the list that was passed.
        batch = self.checked_batch(edits)
        states, done = self.states, self.done
        self.busy = True
        try:
            for index, edit in enumerate(batch):
                self.edit_in_run(index, edit)
                if on_step is not None:
                    on_step(self)
            states, done = self.states, self.done
        finally:
            # After an exception, these are still the rows and edits from before the run.
            self.states, self.done = states, done
            self.busy = False
        return self.finish("run")

    @property
    def version(self):
        """The number of edits that stand."""
        return len(self.done)

    @property
    def size(self):
        """The number of places of the current row."""
        return len(self.states[-1])

    @property
    def rest(self):
        """The rest of the current row."""
        return rest_of(self.states[-1])

    def row(self, *, version=None):
        """Return the current row, or the row of a version."""
        if version is None:
            return self.states[-1]
        if not is_index(version, len(self.states)):
            raise NoVersion(version)
        return self.states[version]

    def tree(self, *, version=None):
        """Return the tree of the current row, or of the row of a version."""
        return tree_of(self.row(version=version))

    def edits(self):
        """Return the tuple of the edits that stand."""
        return self.done

    def walk(self):
        """Yield (version, row) for each version, from 0 to the current one."""
        for version, row in enumerate(self.states):
            yield (version, row)

    def __len__(self):
        return len(self.done)

    def __str__(self):
        return f"{self.size} places, {self.version} edits"

    def __eq__(self, other):
        return isinstance(other, Bench) and self.states[-1] == other.states[-1]

    def require_idle(self):
        """Raise Busy while on_step of this bench runs."""
        if self.busy:
            raise Busy()

    def edit_once(self, edit):
        """Do an edit by itself, and return the new version."""
        self.require_idle()
        self.let_stand(edit)
        return self.finish(edit[0])

    def let_stand(self, edit):
        """Do an edit, alone or within a run."""
        if len(self.done) >= EDITS:
            raise TooManyEdits()
        row = self.next_row(edit)
        self.states, self.done = self.states + (row,), self.done + (edit,)

    def next_row(self, edit):
        """Return the row after an edit of the current row. Classes below may raise more errors."""
        return row_after(self.states[-1], edit)

    def finish(self, name):
        """Return the new version at the end of a call of the method name. Classes below may keep the name."""
        return len(self.done)

    def checked_batch(self, edits):
        """Return the tuple of the edits of a run."""
        if not isinstance(edits, (list, tuple)) or len(edits) > BATCH:
            raise BadEdits()
        for index, edit in enumerate(edits):
            if not self.is_edit(edit):
                raise BadEdit(index)
        return tuple(edits)

    def edit_in_run(self, index, edit):
        """Do the edit with this index of a run."""
        try:
            self.let_stand(edit)
        except (RowError, NoPlace, NoNumber) as error:
            raise Rejected(index) from error


class FoldableBench(Bench):
    """A bench whose row is always foldable."""

    def __init__(self, row):
        super().__init__(row)
        require_foldable(row)

    def next_row(self, edit):
        """Return the row after an edit of the current row, if it is foldable."""
        row = super().next_row(edit)
        require_foldable(row)
        return row


class LoggedBench(Bench):
    """A bench that keeps which methods have changed it."""

    def __init__(self, row):
        super().__init__(row)
        self.noted = ()

    @property
    def log(self):
        """The tuple of (name, version) for each call of an editing method, undo or run."""
        return self.noted

    def finish(self, name):
        """Return the new version, and keep it with the name of the method."""
        version = super().finish(name)
        self.noted = self.noted + ((name, version),)
        return version


class LoggedFoldableBench(LoggedBench, FoldableBench):
    """A bench whose row is always foldable, and that keeps which methods have changed it."""

    def __init__(self, row):
        super().__init__(row)

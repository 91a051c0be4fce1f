"""A second, direct account of what a bench does, and what the tests of benches share."""

from rowfolds.benches import Bench, FoldableBench, LoggedBench, LoggedFoldableBench
from rowfolds.errors import RowError
from rowfolds.trees import tree_of
from samples import counted_pattern, direct_folded, direct_folds, direct_fours

CLASSES = (Bench, FoldableBench, LoggedBench, LoggedFoldableBench)
WORDS = ("exchange", "insert", "remove", "turn")
# The errors that have to carry the very objects that were passed.
WITH_PASSED = ("NoPlace", "NoNumber", "NoVersion", "BadOrder")


def is_from_0_to(value, most):
    return type(value) is int and 0 <= value <= most


def direct_exchange(row, place):
    if not is_from_0_to(place, len(row) - 2):
        return ("NoPlace", place)
    numbers = list(row)
    numbers[place], numbers[place + 1] = numbers[place + 1], numbers[place]
    return ("row", tuple(numbers))


def direct_insert(row, place, number):
    if not is_from_0_to(place, len(row)):
        return ("NoPlace", place)
    if not is_from_0_to(number, len(row)):
        return ("NoNumber", number)
    if len(row) == 12:
        return ("TooLong", 12)
    # With room between the old numbers, the new one stands right below the old one.
    numbers = [2 * other for other in row]
    numbers.insert(place, 2 * number - 1)
    return ("row", counted_pattern(numbers))


def direct_remove(row, place):
    if not is_from_0_to(place, len(row) - 1):
        return ("NoPlace", place)
    if len(row) == 1:
        return ("LastOne",)
    numbers = list(row)
    gone = numbers.pop(place)
    return ("row", tuple(number - (number > gone) for number in numbers))


def direct_turn(row, first, last):
    for place in (first, last):
        if not is_from_0_to(place, len(row) - 1):
            return ("NoPlace", place)
    if first > last:
        return ("BadOrder", first, last)
    numbers = list(row)
    while first < last:
        numbers[first], numbers[last] = numbers[last], numbers[first]
        first, last = first + 1, last - 1
    return ("row", tuple(numbers))


DIRECT = dict(zip(WORDS, (direct_exchange, direct_insert, direct_remove, direct_turn)))


def direct_rest(row):
    while direct_folds(row):
        row = direct_folded(row, direct_folds(row)[0])
    return row


def direct_is_edit(value):
    return isinstance(value, tuple) and (
        len(value) == 2 and value[0] in ("exchange", "remove") or len(value) == 3 and value[0] in ("insert", "turn"))


class Model:
    """What a bench of a class has to be like: its methods return outcomes, and raise nothing."""

    def __init__(self, made_of, row):
        self.foldable = issubclass(made_of, FoldableBench)
        self.logged = issubclass(made_of, LoggedBench)
        self.rows = [row]
        self.done = []
        self.log = []

    def add(self, edit):
        """Do an edit without a row in the log."""
        if len(self.done) == 60:
            return ("TooManyEdits",)
        outcome = DIRECT[edit[0]](self.rows[-1], *edit[1:])
        if outcome[0] != "row":
            return outcome
        if self.foldable and direct_fours(outcome[1]):
            return ("HasFour", direct_fours(outcome[1]))
        self.rows.append(outcome[1])
        self.done.append(edit)
        return ("returns", len(self.done))

    def finish(self, name, outcome):
        if outcome[0] == "returns" and self.logged:
            self.log.append((name, outcome[1]))
        return outcome

    def edit(self, edit):
        return self.finish(edit[0], self.add(edit))

    def undo(self):
        if not self.done:
            return ("NothingToUndo",)
        self.rows.pop()
        self.done.pop()
        return self.finish("undo", ("returns", len(self.done)))

    def run(self, edits):
        if not isinstance(edits, (list, tuple)) or len(edits) > 20:
            return ("BadEdits",)
        wrong = [index for index, edit in enumerate(edits) if not direct_is_edit(edit)]
        if wrong:
            return ("BadEdit", wrong[0])
        before = len(self.done)
        for index, edit in enumerate(edits):
            if self.add(edit)[0] != "returns":
                del self.rows[before + 1:], self.done[before:]
                return ("Rejected", index)
        return self.finish("run", ("returns", len(self.done)))

    def told(self):
        """Return what the bench has to tell of itself."""
        row = self.rows[-1]
        return {
            "version": len(self.done), "size": len(row), "rest": direct_rest(row), "row": row, "tree": tree_of(row),
            "edits": tuple(self.done), "walk": list(enumerate(self.rows)), "len": len(self.done),
            "str": f"{len(row)} places, {len(self.done)} edits", "log": tuple(self.log) if self.logged else None,
        }


def told_by(bench):
    """Return all that a bench tells of itself without a version."""
    return {
        "version": bench.version, "size": bench.size, "rest": bench.rest, "row": bench.row(), "tree": bench.tree(),
        "edits": bench.edits(), "walk": list(bench.walk()), "len": len(bench), "str": str(bench),
        "log": bench.log if isinstance(bench, LoggedBench) else None,
    }


def outcome_of(call, *arguments, **keywords):
    """Return ("returns", result), or the name of the error with its fields."""
    try:
        return ("returns", call(*arguments, **keywords))
    except (RowError, LookupError) as error:
        return (type(error).__name__, *vars(error).values())


def do(bench, edit):
    """Call the method of an edit, and return the outcome."""
    return outcome_of(getattr(bench, edit[0]), *edit[1:])


def same_outcome(outcome, expected):
    """Say whether an outcome is the expected one of the model."""
    if expected[0] == "HasFour":
        return outcome[0] == "HasFour" and len(outcome) == 2 and outcome[1] in expected[1]
    if expected[0] in WITH_PASSED:
        return outcome[0] == expected[0] and list(map(id, outcome[1:])) == list(map(id, expected[1:]))
    return outcome == expected and list(map(type, outcome)) == list(map(type, expected))


def drawn_edit(draws, size, past=1):
    """Return an edit of a row of the size, with a few arguments that are just outside."""
    word = draws.item(WORDS)
    many = 1 if word in ("exchange", "remove") else 2
    return (word, *[draws.below(size + 1 + past) for _ in range(many)])


def good_edits(made_of, row, many, draws):
    """Return that many edits that a new bench of the class with the row can do one after another."""
    model = Model(made_of, row)
    while len(model.done) < many:
        model.add(drawn_edit(draws, len(model.rows[-1]), past=0))
    return model.done

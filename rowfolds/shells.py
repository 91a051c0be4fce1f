"""A shell: commands and answers are texts."""

from rowfolds.counting import foldable_index
from rowfolds.errors import (
    BadOrder, Busy, HasFour, LastOne, NoNumber, NoPlace, NotFoldable, NothingToUndo, TooLong, TooManyEdits,
)
from rowfolds.rows import flipped_row
from rowfolds.selections import longest_rising
from rowfolds.texts import number_in, row_text, tree_text
from rowfolds.trees import count_blocks

UNKNOWN = "unknown command"


def do_exchange(bench, place):
    """Answer `exchange N`."""
    return f"ok {bench.exchange(place)}"


def do_insert(bench, place, number):
    """Answer `insert N N`."""
    return f"ok {bench.insert(place, number)}"


def do_remove(bench, place):
    """Answer `remove N`."""
    return f"ok {bench.remove(place)}"


def do_turn(bench, first, last):
    """Answer `turn N N`."""
    return f"ok {bench.turn(first, last)}"


def do_undo(bench):
    """Answer `undo`."""
    return f"ok {bench.undo()}"


def show_row(bench):
    """Answer `row`."""
    return row_text(bench.row())


def show_tree(bench):
    """Answer `tree`."""
    return tree_text(bench.tree())


def show_rest(bench):
    """Answer `rest`."""
    return row_text(bench.rest)


def show_blocks(bench):
    """Answer `blocks`."""
    return str(count_blocks(bench.tree()))


def show_rising(bench):
    """Answer `rising`."""
    return str(len(longest_rising(bench.row())))


def show_falling(bench):
    """Answer `falling`."""
    return str(len(longest_rising(flipped_row(bench.row()))))


def show_index(bench):
    """Answer `index`."""
    return str(foldable_index(bench.row()))


# The commands: a word, and how many numbers follow it.
ANSWERS = {
    ("exchange", 1): do_exchange,
    ("insert", 2): do_insert,
    ("remove", 1): do_remove,
    ("turn", 2): do_turn,
    ("undo", 0): do_undo,
    ("row", 0): show_row,
    ("tree", 0): show_tree,
    ("rest", 0): show_rest,
    ("blocks", 0): show_blocks,
    ("rising", 0): show_rising,
    ("falling", 0): show_falling,
    ("index", 0): show_index,
}


def answer_or_error(answer, bench, numbers):
    """Return the answer, or the name of the error that the bench or a function on its row raises."""
    try:
        return answer(bench, *numbers)
    except Busy:
        return "error Busy"
    except TooManyEdits:
        return "error TooManyEdits"
    except NothingToUndo:
        return "error NothingToUndo"
    except NoPlace:
        return "error NoPlace"
    except NoNumber:
        return "error NoNumber"
    except TooLong:
        return "error TooLong"
    except LastOne:
        return "error LastOne"
    except BadOrder:
        return "error BadOrder"
    except HasFour:
        return "error HasFour"
    except NotFoldable:
        return "error NotFoldable"


class Shell:
    """A shell that works on one bench."""

    def __init__(self, bench):
        self.bench = bench

    def execute(self, line):
        """Return the answer to a line, which may be any value."""
        if not isinstance(line, str):
            return UNKNOWN
        words = line.split(" ")
        numbers = [number_in(word) for word in words[1:]]
        answer = ANSWERS.get((words[0], len(numbers)))
        if answer is None or None in numbers:
            return UNKNOWN
        return answer_or_error(answer, self.bench, numbers)

"""Folding: two neighbouring entries whose numbers differ by 1 become one entry."""

from rowfolds.errors import NoFold
from rowfolds.rows import are_places, chosen, pattern_of
from rowfolds.values import is_index, is_pair

# The patterns of four entries that no row has which folds to one entry.
FOUR_PATTERNS = ((1, 3, 0, 2), (2, 0, 3, 1))


def is_fold(row, value):
    """Return whether any value is a fold of the row."""
    return is_index(value, len(row) - 1) and abs(row[value] - row[value + 1]) == 1


def folds_of(row):
    """Return the ascending tuple of the folds of the row."""
    return tuple([place for place in range(len(row) - 1) if is_fold(row, place)])


def folded(row, place):
    """Return the row after the fold at place."""
    if not is_fold(row, place):
        raise NoFold(place)
    return after_fold(row, place)


def after_fold(row, place):
    """Return the row after a fold that it has."""
    return pattern_of(row[:place + 1] + row[place + 2:])


def history_and_rest(row):
    """Return a complete history of the row, and its rest."""
    history = []
    state = row
    folds = folds_of(state)
    while len(folds) > 0:
        history.append(folds[0])
        state = after_fold(state, folds[0])
        folds = folds_of(state)
    return (tuple(history), state)


def rest_of(row):
    """Return the row that is left when nothing can be folded any more."""
    return history_and_rest(row)[1]


def is_foldable(row):
    """Return whether the row folds to one entry."""
    return rest_of(row) == (0,)


def states_along(row, history):
    """Yield the row, and then the row after each fold of its history."""
    state = row
    yield state
    for place in history:
        state = folded(state, place)
        yield state


def is_history(row, value):
    """Return whether any value is a history of the row, complete or not."""
    if not isinstance(value, tuple):
        return False
    state = row
    for place in value:
        if not is_fold(state, place):
            return False
        state = folded(state, place)
    return True


def is_four(row, value):
    """Return whether any value is a four of the row."""
    return are_places(row, value) and chosen(row, value) in FOUR_PATTERNS


def find_four(row):
    """Return a four of the row, or None if there is none."""
    size = len(row)
    for first in range(size):
        for second in range(first + 1, size):
            for third in range(second + 1, size):
                for fourth in range(third + 1, size):
                    places = (first, second, third, fourth)
                    if chosen(row, places) in FOUR_PATTERNS:
                        return places
    return None


def certificate(row):
    """Return ("history", history) if the row is foldable, and ("four", places) if it is not."""
    history, rest = history_and_rest(row)
    if rest == (0,):
        return ("history", history)
    return ("four", find_four(row))


def certificate_holds(row, value):
    """Return whether any value shows that the row is foldable, or that it is not."""
    if not is_pair(value):
        return False
    word, shown = value
    if word == "history":
        # Each fold takes one entry away, so the length tells whether one entry is left.
        return is_history(row, shown) and len(shown) == len(row) - 1
    return word == "four" and is_four(row, shown)

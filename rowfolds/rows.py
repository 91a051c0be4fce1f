"""Rows: tuples that contain each of the numbers 0 to n - 1 once."""

from rowfolds.bounds import MAX_PLACES
from rowfolds.errors import NoPlaces, NoRows, TooLong
from rowfolds.values import is_ascending, is_index


def is_row(value):
    """Return whether any value is a row."""
    return row_error(value) is None


def row_error(value):
    """Return None for a row, and otherwise (place or None, word) for its first error."""
    return error_within(value, MAX_PLACES)


def error_within(value, most):
    """Return what row_error returns where rows may have that many places at most."""
    if not isinstance(value, tuple) or not 1 <= len(value) <= most:
        return (None, "row")
    for place, item in enumerate(value):
        if not is_index(item, len(value)):
            return (place, "number")
        if item in value[:place]:
            return (place, "twice")
    return None


def pattern_of(numbers):
    """Return the row in which each number is replaced by how many are smaller."""
    ascending = sorted(numbers)
    return tuple([ascending.index(number) for number in numbers])


def reversed_row(row):
    """Return the row with its places in opposite order."""
    return row[::-1]


def flipped_row(row):
    """Return the row in which each number x is replaced by n - 1 - x."""
    return tuple([len(row) - 1 - number for number in row])


def inverse_row(row):
    """Return the row whose number at place x is the place of x."""
    return tuple([row.index(number) for number in range(len(row))])


def are_places(row, value):
    """Return whether any value is an ascending tuple of one or more places of the row."""
    if not isinstance(value, tuple) or len(value) == 0:
        return False
    # Only integers are compared with each other: other items may have no order.
    return all([is_index(item, len(row)) for item in value]) and is_ascending(value)


def chosen(row, places):
    """Return the pattern of the numbers at the places."""
    if not are_places(row, places):
        raise NoPlaces(places)
    return pattern_of(tuple([row[place] for place in places]))


def size_below(order, sizes, number):
    """Return the sum of the sizes that stand at smaller numbers of order than this one."""
    return sum([size for other, size in zip(order, sizes) if other < number])


def put_together(order, rows):
    """Return the rows side by side, the numbers of one following those of another as order says."""
    sizes = [len(row) for row in rows]
    numbers = []
    for rank, row in zip(order, rows):
        smaller = size_below(order, sizes, rank)
        numbers.extend([smaller + number for number in row])
    return tuple(numbers)


def joined(*rows, falling=False):
    """Return the rows side by side, each one above (or below) those before it."""
    if len(rows) == 0:
        raise NoRows()
    if sum([len(row) for row in rows]) > MAX_PLACES:
        raise TooLong(MAX_PLACES)
    order = tuple(range(len(rows)))
    return put_together(reversed_row(order) if falling else order, rows)

"""Counting: the foldable rows with n places, counted and numbered without listing them.

Among the foldable rows of two or more places, half are rising and half are falling: one is the flipped row of the
other. The row (0,) is neither, so counts[n] // 2 of the rows with n places are rising, for n = 1 too.
"""

from rowfolds.bounds import MAX_COUNT
from rowfolds.errors import NoIndex, NotFoldable
from rowfolds.rows import error_within, flipped_row, pattern_of, put_together
from rowfolds.values import is_index


def counts_up_to(n):
    """Return the list of the numbers of foldable rows with 0, 1, 2 .. n places."""
    counts = [0, 1]
    for places in range(2, n + 1):
        rising = sum([count_with_first(counts, places, size) for size in range(1, places)])
        counts.append(2 * rising)
    return counts


def count_with_first(counts, places, size):
    """Return the number of rising rows (as well as of falling ones) whose first part has this size."""
    first_parts = counts[size] - counts[size] // 2
    return first_parts * counts[places - size]


def count_foldable(n):
    """Return the number of foldable rows with n places."""
    return counts_up_to(n)[n]


def row_numbered(counts, places, index):
    """Return the foldable row with this index."""
    if places == 1:
        return (0,)
    rising = counts[places] // 2
    falls = index >= rising
    left = index - rising if falls else index
    size = 1
    while left >= count_with_first(counts, places, size):
        left -= count_with_first(counts, places, size)
        size += 1
    before, behind = divmod(left, counts[places - size])
    # The first part of a rising row is none of the rising rows, which come first.
    at = before if falls else before + counts[size] // 2
    parts = (row_numbered(counts, size, at), row_numbered(counts, places - size, behind))
    return put_together((1, 0) if falls else (0, 1), parts)


def foldable_at(n, index):
    """Return the foldable row with n places and this index."""
    counts = counts_up_to(n)
    if not is_index(index, counts[n]):
        raise NoIndex(index)
    return row_numbered(counts, n, index)


def first_size(row):
    """Return the size of the first part of a row that rises, or None if it does not rise."""
    for size in range(1, len(row)):
        if max(row[:size]) == size - 1:
            return size
    return None


def number_of(counts, row):
    """Return the index of a foldable row of any size."""
    places = len(row)
    if places == 1:
        return 0
    size = first_size(row)
    falls = size is None
    if falls:
        size = first_size(flipped_row(row))
    if size is None:
        raise NotFoldable()
    at = number_of(counts, pattern_of(row[:size]))
    before = at if falls else at - counts[size] // 2
    behind = number_of(counts, pattern_of(row[size:]))
    smaller = sum([count_with_first(counts, places, other) for other in range(1, size)])
    index = smaller + before * counts[places - size] + behind
    return index + counts[places] // 2 if falls else index


def foldable_index(value):
    """Return the index of a foldable row."""
    if error_within(value, MAX_COUNT) is not None:
        raise NotFoldable()
    return number_of(counts_up_to(len(value)), value)


def each_foldable(n):
    """Yield the foldable rows with n places in their order, one by one."""
    counts = counts_up_to(n)
    for index in range(counts[n]):
        yield row_numbered(counts, n, index)

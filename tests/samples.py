"""Rows and other values that several tests use."""

from itertools import permutations

SMALL_ROWS = [row for size in range(1, 6) for row in permutations(range(size))]


def row_at(size, index):
    """Return the row with this index in the order of all rows of the size, round and round."""
    left = list(range(size))
    row = []
    while left:
        index, at = divmod(index, len(left))
        row.append(left.pop(at))
    return tuple(row)


# The step is a prime number, so that the rows of each size differ in many ways.
LARGE_ROWS = [row_at(size, 15485863 * step + size) for size in range(6, 13) for step in range(1, 25)]
LARGE_ROWS += [tuple(range(size)) for size in range(6, 13)]
LARGE_ROWS += [tuple(range(size))[::-1] for size in range(6, 13)]
LARGE_ROWS += [(1, 3, 0, 2, 4, 5, 6, 7, 8, 9, 10, 11), (1, 0, 3, 2, 5, 4, 7, 6, 9, 8, 11, 10)]
LARGE_ROWS += [(11, 9, 10, 8, 0, 1, 2, 3, 7, 6, 5, 4), (6, 0, 7, 1, 8, 2, 9, 3, 10, 4, 11, 5)]

ROWS = SMALL_ROWS + LARGE_ROWS


def nested(value, levels):
    """Return the value inside of that many tuples and lists."""
    for level in range(levels):
        value = [value] if level % 2 else (value,)
    return value


# None of these is a row, a tuple of places or a block.
OTHER_VALUES = [
    None, True, False, 0, 1, 2, -1, 10 ** 59, -(10 ** 59),
    "", "0", "0 1", "(0,)", "row", "\n", "x" * 2000,
    (), [], {}, [0], [0, 1], [0, 0], {"0": 0}, {"first": 0, "last": 1},
    (None,), (True,), (False,), ("0",), ("",), ((),), ((0,),), ([0],), ({},), ({"0": 0},), (-1,), (10 ** 59,),
    (False, True), (0, True), (False, 1), (0, None), (None, 0), (0, "1"), ("0", 1), ("0", "1"), "01",
    (0, (1,)), ((0,), 1), ((0, 1),), [(0, 1)], ((0, 1), (0, 1)), (0, [1]), ({}, {}), (-1, 0), (-2, -1), (0, -1),
    (0, 10 ** 59), (10 ** 59, 10 ** 59), (0, 1, None), (0, 1, "2"), (False, 1, 2),
    nested(0, 40), nested((0, 1), 39), (0,) * 1000, [0] * 1000,
]

import unittest
from functools import cache
from inspect import isgenerator
from itertools import islice

from rowfolds.counting import count_foldable, each_foldable, foldable_at, foldable_index
from rowfolds.errors import NoIndex, NotFoldable
from rowfolds.folds import is_foldable
from samples import (
    LARGE_ROWS, LARGE_TREES, OTHER_VALUES, ROWS_TO_SIX, Draws, counted_pattern, direct_folded, direct_folds,
    direct_fours, direct_row, nested, variants,
)


@cache
def direct_count(n):
    """Return a Schroeder number, by a recurrence that looks two numbers back."""
    if n < 3:
        return n
    return (3 * (2 * n - 3) * direct_count(n - 1) - (n - 3) * direct_count(n - 2)) // n


def side_by_side(first, remainder, falls):
    if falls:
        return tuple(len(remainder) + number for number in first) + remainder
    return first + tuple(len(first) + number for number in remainder)


def first_part_size(row):
    """Return the size of the first part, if all other entries stand above it, else None."""
    return next((size for size in range(1, len(row)) if max(row[:size]) < min(row[size:])), None)


def flipped(row):
    return tuple(len(row) - 1 - number for number in row)


@cache
def listed(n):
    """Return the list of the foldable rows with n places, written in the order of the document."""
    if n == 1:
        return [(0,)]
    rows = []
    for falls in (False, True):
        for size in range(1, n):
            for first in listed(size):
                if first_part_size(flipped(first) if falls else first) is None:
                    rows += [side_by_side(first, remainder, falls) for remainder in listed(n - size)]
    return rows


def order_key(row):
    """Return a key that puts foldable rows of the same size in the order of the document."""
    if len(row) == 1:
        return ()
    falls = first_part_size(row) is None
    size = first_part_size(flipped(row) if falls else row)
    return (falls, size, order_key(counted_pattern(row[:size])), order_key(counted_pattern(row[size:])))


def folds_to_one(row):
    while direct_folds(row):
        row = direct_folded(row, direct_folds(row)[-1])
    return row == (0,)


def last_row(n, falls=True):
    """Return the last falling (or rising) row: its first part is as large as can be, and the last one, too."""
    if n == 1:
        return (0,)
    return side_by_side(last_row(n - 1, not falls), (0,), falls)


def drawn_indexes(draws, n, many):
    count = direct_count(n)
    half = count // 2
    return sorted({0, count - 1, half, max(half - 1, 0), *[draws.below(count) for _ in range(many)]})


class CountTest(unittest.TestCase):
    def test_all_sizes(self):
        for n in range(1, 61):
            self.assertEqual(count_foldable(n), direct_count(n))

    def test_rows_without_a_four(self):
        for n in range(1, 7):
            rows = [row for row in ROWS_TO_SIX if len(row) == n and not direct_fours(row)]
            self.assertEqual(count_foldable(n), len(rows))
            self.assertEqual(len(listed(n)), len(rows))

    def test_numbers(self):
        self.assertEqual([count_foldable(n) for n in range(1, 13)],
                         [1, 2, 6, 22, 90, 394, 1806, 8558, 41586, 206098, 1037718, 5293446])
        self.assertGreater(count_foldable(60), 10 ** 42)


class FoldableAtTest(unittest.TestCase):
    def test_all_rows_in_their_order(self):
        for n in range(1, 8):
            self.assertEqual([foldable_at(n, index) for index in range(direct_count(n))], listed(n))

    def test_drawn_indexes(self):
        draws = Draws(11)
        for n in range(1, 61):
            indexes = drawn_indexes(draws, n, 6)
            rows = [foldable_at(n, index) for index in indexes]
            keys = [order_key(row) for row in rows]
            self.assertEqual(keys, sorted(keys))
            self.assertEqual(len(set(rows)), len(rows))
            for row, index in zip(rows, indexes):
                self.assertEqual(sorted(row), list(range(n)))
                self.assertEqual({type(number) for number in row}, {int})
                self.assertTrue(folds_to_one(row))
                self.assertEqual(foldable_index(row), index)

    def test_neighbours(self):
        draws = Draws(12)
        for n in (8, 12, 13, 30, 59, 60):
            for index in drawn_indexes(draws, n, 4)[:-1]:
                self.assertLess(order_key(foldable_at(n, index)), order_key(foldable_at(n, index + 1)))

    def test_first_and_last_rows(self):
        for n in range(1, 61):
            count = direct_count(n)
            self.assertEqual(foldable_at(n, 0), tuple(range(n)))
            self.assertEqual(foldable_at(n, count - 1), last_row(n))
            if n > 1:
                self.assertEqual(foldable_at(n, count // 2 - 1), last_row(n, falls=False))
                # The first falling row: its first part is one entry, and the remainder is the first row of all.
                self.assertEqual(foldable_at(n, count // 2), (n - 1, *range(n - 1)))

    def check_no_index(self, n, index):
        with self.assertRaises(NoIndex, msg=(n, str(index)[:80])) as caught:
            foldable_at(n, index)
        self.assertIs(caught.exception.value, index)

    def test_indexes_outside(self):
        for n in range(1, 61):
            count = direct_count(n)
            for index in (-1, -2, -count, -count - 1, count, count + 1, 2 * count, 10 ** 59, -(10 ** 59)):
                self.check_no_index(n, index)

    def test_other_values(self):
        for n in (1, 2, 5, 60):
            for value in OTHER_VALUES + [True, False, "0", (0,), [0], [], {}, None, (), "1"]:
                if type(value) is not int:
                    self.check_no_index(n, value)


class FoldableIndexTest(unittest.TestCase):
    def test_all_rows_in_their_order(self):
        for n in range(1, 8):
            for index, row in enumerate(listed(n)):
                self.assertEqual(foldable_index(row), index)

    def test_drawn_rows(self):
        for row in LARGE_ROWS + [direct_row(tree) for tree in LARGE_TREES]:
            if is_foldable(row):
                index = foldable_index(row)
                self.assertIn(index, range(direct_count(len(row))))
                self.assertEqual(foldable_at(len(row), index), row)

    def test_rows_with_a_four(self):
        for row in ROWS_TO_SIX + LARGE_ROWS + [direct_row(tree) for tree in LARGE_TREES]:
            if direct_fours(row):
                self.assertRaises(NotFoldable, foldable_index, row)

    def test_long_rows_with_a_four(self):
        # Each place is exchanged with another one until the row has a four.
        draws = Draws(13)
        for n in range(13, 61, 3):
            row = list(foldable_at(n, draws.below(direct_count(n))))
            while folds_to_one(tuple(row)):
                here, there = draws.below(n), draws.below(n)
                row[here], row[there] = row[there], row[here]
            self.assertRaises(NotFoldable, foldable_index, tuple(row))
        for first in range(57):
            form = tuple(first + number for number in (1, 3, 0, 2))
            row = tuple(range(first)) + form + tuple(range(first + 4, 60))
            self.assertRaises(NotFoldable, foldable_index, row)
            self.assertRaises(NotFoldable, foldable_index, row[::-1])

    def test_sixty_places_and_more(self):
        self.assertEqual(foldable_index(tuple(range(60))), 0)
        self.assertEqual(foldable_index(last_row(60)), direct_count(60) - 1)
        for n in (61, 62, 100, 1000):
            self.assertRaises(NotFoldable, foldable_index, tuple(range(n)))
            self.assertRaises(NotFoldable, foldable_index, tuple(range(n))[::-1])

    def test_one_part_changed(self):
        others = [None, True, False, "0", (), (0,), [0], -1, 0, 1, 2, 59, 60, 10 ** 59]
        for row in [(0,), (1, 0), (2, 0, 1), (1, 0, 3, 2), foldable_at(60, 10 ** 40)]:
            for value in variants(row, others):
                if self.direct_is_foldable(value):
                    self.assertEqual(foldable_at(len(value), foldable_index(value)), value)
                else:
                    self.assertRaises(NotFoldable, foldable_index, value)

    def direct_is_foldable(self, value):
        if not isinstance(value, tuple) or {type(number) for number in value} != {int}:
            return False
        return sorted(value) == list(range(len(value))) and len(value) <= 60 and folds_to_one(value)

    def test_other_values(self):
        for value in OTHER_VALUES + [[0], list(range(60)), (True, False), (False,), (0, True), (1, False, 2),
                                     {"0": 0}, "0", (0, 0), (1,), (1, 2), (-1, 0), nested((0,), 39)]:
            self.assertRaises(NotFoldable, foldable_index, value)


class EachFoldableTest(unittest.TestCase):
    def test_all_rows_in_their_order(self):
        for n in range(1, 8):
            self.assertEqual(list(each_foldable(n)), listed(n))

    def test_twice(self):
        self.assertEqual(list(each_foldable(6)), list(each_foldable(6)))
        pairs = list(zip(each_foldable(5), each_foldable(5)))
        self.assertEqual(pairs, [(row, row) for row in listed(5)])

    def test_left_early(self):
        for n in (20, 60):
            rows = each_foldable(n)
            self.assertTrue(isgenerator(rows))
            self.assertEqual([next(rows) for _ in range(20)], [foldable_at(n, index) for index in range(20)])
            rows.close()
        self.assertEqual(list(islice(each_foldable(60), 2)),
                         [tuple(range(60)), tuple(range(58)) + (59, 58)])
        for row in each_foldable(60):
            break
        self.assertEqual(row, tuple(range(60)))


if __name__ == "__main__":
    unittest.main()

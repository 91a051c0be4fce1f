import unittest
from itertools import combinations, product

from rowfolds.errors import NoPlaces, NoRows, TooLong
from rowfolds.rows import (
    chosen, flipped_row, inverse_row, is_row, joined, pattern_of, reversed_row, row_error,
)
from samples import OTHER_VALUES, ROWS, SMALL_ROWS, counted_pattern, nested

NO_NUMBERS = [None, True, False, "0", "", (), (0,), [0], {}, -1, -2, 12, 13, 10 ** 59, -(10 ** 59), nested(0, 38)]


def changed(row, place, item):
    return row[:place] + (item,) + row[place + 1:]


class RowErrorTest(unittest.TestCase):
    def check(self, value, error):
        with self.subTest(str(value)[:80]):
            self.assertEqual(row_error(value), error)
            self.assertIs(is_row(value), error is None)

    def test_rows_of_one_to_twelve_places(self):
        self.assertEqual({len(row) for row in ROWS}, set(range(1, 13)))
        for row in ROWS:
            self.check(row, None)

    def test_every_tuple_of_few_small_numbers(self):
        for size in range(1, 5):
            for value in product(range(-1, size + 1), repeat=size):
                self.check(value, self.direct_error(value))

    def direct_error(self, value):
        for place, item in enumerate(value):
            if item not in range(len(value)):
                return (place, "number")
            if value.index(item) < place:
                return (place, "twice")
        return None

    def test_a_number_changed(self):
        for row in ROWS:
            for place in range(len(row)):
                self.check(changed(row, place, len(row)), (place, "number"))
                self.check(changed(row, place, -1), (place, "number"))

    def test_an_item_that_is_no_number(self):
        for row in [(0,), (1, 0), (2, 0, 1), tuple(range(12)), tuple(range(12))[::-1]]:
            for place in range(len(row)):
                for item in NO_NUMBERS:
                    self.check(changed(row, place, item), (place, "number"))

    def test_a_number_repeated(self):
        for row in ROWS:
            for place, later in combinations(range(len(row)), 2):
                self.check(changed(row, later, row[place]), (later, "twice"))
                self.check(changed(row, place, row[later]), (later, "twice"))

    def test_a_number_removed(self):
        for row in ROWS:
            for place, number in enumerate(row):
                value = row[:place] + row[place + 1:]
                if not value:
                    self.check(value, (None, "row"))
                elif number == len(value):
                    self.check(value, None)
                else:
                    self.check(value, (value.index(len(value)), "number"))

    def test_too_many_places_or_none(self):
        self.check((), (None, "row"))
        self.check(tuple(range(13)), (None, "row"))
        self.check(tuple(range(13))[::-1], (None, "row"))
        self.check((None,) * 13, (None, "row"))
        self.check((0,) * 1000, (None, "row"))

    def test_lists_and_values_that_are_no_tuples(self):
        for row in ROWS:
            self.check(list(row), (None, "row"))
        for value in OTHER_VALUES:
            if not isinstance(value, tuple):
                self.check(value, (None, "row"))

    def test_other_values_are_no_rows(self):
        for value in OTHER_VALUES:
            with self.subTest(str(value)[:80]):
                self.assertIs(is_row(value), False)
                self.assertIsNotNone(row_error(value))

    def test_bools_are_no_numbers(self):
        self.check((True,), (0, "number"))
        self.check((False,), (0, "number"))
        self.check((True, False), (0, "number"))
        self.check((0, True), (1, "number"))
        self.check((0, False), (1, "number"))
        self.check((1, True), (1, "number"))
        self.check((2, 1, False), (2, "number"))

    def test_errors_come_place_by_place(self):
        self.check((0, 0, 5), (1, "twice"))
        self.check((0, 5, 0), (1, "number"))
        self.check((5, 0, 0), (0, "number"))
        self.check((5, 5, 5), (0, "number"))
        self.check((1, 1, 1), (1, "twice"))
        self.check((2, 0, 2, 0), (2, "twice"))
        self.check((1, 0, 0, None), (2, "twice"))
        self.check((1, 0, None, 0), (2, "number"))


class PatternTest(unittest.TestCase):
    def test_rows_are_their_own_patterns(self):
        for row in ROWS:
            self.assertEqual(pattern_of(row), row)

    def test_numbers_close_together_and_far_apart(self):
        for row in ROWS:
            for spread, shift in [(1, 5), (1, -6), (2, -11), (1000, 0), (7 ** 30, -(10 ** 26))]:
                numbers = tuple(spread * number + shift for number in row)
                with self.subTest(numbers):
                    self.assertEqual(pattern_of(numbers), row)

    def test_numbers_of_thirty_digits(self):
        top = 10 ** 30 - 1
        self.assertEqual(pattern_of((top, -top, 0, top - 1, 1 - top)), (4, 0, 2, 3, 1))
        self.assertEqual(pattern_of((10 ** 29 + 1, 10 ** 29, 10 ** 29 + 2)), (1, 0, 2))
        self.assertEqual(pattern_of((top,)), (0,))

    def test_uneven_numbers(self):
        for size in range(1, 13):
            numbers = tuple((-3) ** (2 * k + 1) if k % 3 else 5 ** k for k in range(size))
            self.assertEqual(pattern_of(numbers), counted_pattern(numbers))
            self.assertTrue(is_row(pattern_of(numbers)))


class TurnedRowsTest(unittest.TestCase):
    def test_place_by_place(self):
        for row in ROWS:
            last = len(row) - 1
            for place, number in enumerate(row):
                self.assertEqual(reversed_row(row)[last - place], number)
                self.assertEqual(flipped_row(row)[place], last - number)
                self.assertEqual(inverse_row(row)[number], place)

    def test_results_are_rows_of_the_same_size(self):
        for row in ROWS:
            for turned in (reversed_row(row), flipped_row(row), inverse_row(row)):
                self.assertIsNone(row_error(turned))
                self.assertEqual(len(turned), len(row))

    def test_twice_is_the_row_again(self):
        for row in ROWS:
            for turn in (reversed_row, flipped_row, inverse_row):
                self.assertEqual(turn(turn(row)), row)


class ChosenTest(unittest.TestCase):
    def test_some_places(self):
        for row in SMALL_ROWS:
            for many in range(1, len(row) + 1):
                for places in combinations(range(len(row)), many):
                    numbers = tuple(row[place] for place in places)
                    self.assertEqual(chosen(row, places), counted_pattern(numbers))

    def test_one_place_and_all_places(self):
        for row in ROWS:
            self.assertEqual(chosen(row, tuple(range(len(row)))), row)
            for place in range(len(row)):
                self.assertEqual(chosen(row, (place,)), (0,))

    def test_places_of_long_rows(self):
        for row in ROWS:
            self.assertEqual(chosen(row, tuple(range(0, len(row), 2))), counted_pattern(row[::2]))
            self.assertEqual(chosen(row, tuple(range(len(row) // 2, len(row)))), counted_pattern(row[len(row) // 2:]))

    def check_no_places(self, row, places):
        with self.subTest(row=row, places=str(places)[:80]):
            with self.assertRaises(NoPlaces) as caught:
                chosen(row, places)
            self.assertIs(caught.exception.value, places)

    def test_every_tuple_of_three_numbers(self):
        row = (2, 0, 1, 3)
        for places in product(range(-1, 5), repeat=3):
            if places in list(combinations(range(4), 3)):
                self.assertEqual(chosen(row, places), counted_pattern([row[place] for place in places]))
            else:
                self.check_no_places(row, places)

    def test_repeated_exchanged_and_outside_places(self):
        for row in [(0,), (1, 0), (2, 0, 1, 3), tuple(range(12))]:
            last = len(row) - 1
            for places in [(last + 1,), (0, last + 1), (-1,), (-1, 0), (last, last), (last, 0), (0, 0), (12,), (99,)]:
                self.check_no_places(row, places)
            self.check_no_places(row, tuple(range(len(row) + 1)))
            self.check_no_places(row, tuple(range(-1, len(row))))

    def test_lists_and_other_values(self):
        for row in [(0,), (1, 0), (2, 0, 1, 3), tuple(range(12))]:
            for places in OTHER_VALUES:
                self.check_no_places(row, places)
            self.check_no_places(row, list(range(len(row))))

    def test_bools_are_no_places(self):
        for places in [(True,), (False,), (False, True), (0, True), (False, 1), (0, 1, True), (False, 1, 2)]:
            self.check_no_places((2, 0, 1, 3), places)


class JoinedTest(unittest.TestCase):
    PARTS = [(0,), (1, 0), (0, 1), (2, 0, 1), (1, 3, 0, 2)]

    def test_rising(self):
        for rows in product(self.PARTS, repeat=3):
            self.check_stretches(joined(*rows), rows, False)
            self.check_stretches(joined(*rows, falling=False), rows, False)

    def test_falling(self):
        for rows in product(self.PARTS, repeat=3):
            self.check_stretches(joined(*rows, falling=True), rows, True)

    def check_stretches(self, whole, rows, falling):
        """Check that each row stands in its stretch, and that the stretches rise or fall."""
        self.assertIsNone(row_error(whole))
        first = 0
        stretches = []
        for row in rows:
            stretches.append(whole[first:first + len(row)])
            self.assertEqual(counted_pattern(stretches[-1]), row)
            first += len(row)
        self.assertEqual(first, len(whole))
        if falling:
            stretches.reverse()
        self.assertEqual([number for stretch in stretches for number in sorted(stretch)], list(range(len(whole))))

    def test_numbers(self):
        self.assertEqual(joined((1, 0), (0,), (2, 0, 1)), (1, 0, 2, 5, 3, 4))
        self.assertEqual(joined((1, 0), (0,), (2, 0, 1), falling=True), (5, 4, 3, 2, 0, 1))

    def test_one_row(self):
        for row in ROWS:
            self.assertEqual(joined(row), row)
            self.assertEqual(joined(row, falling=False), row)
            self.assertEqual(joined(row, falling=True), row)

    def test_no_row(self):
        self.assertRaises(NoRows, joined)
        self.assertRaises(NoRows, joined, falling=True)
        self.assertRaises(NoRows, joined, falling=False)

    def test_exactly_twelve_entries(self):
        ascending = tuple(range(12))
        self.assertEqual(joined(*[(0,)] * 12), ascending)
        self.assertEqual(joined(*[(0,)] * 12, falling=True), ascending[::-1])
        self.assertEqual(joined(ascending[:5], ascending[:7]), ascending)
        self.assertEqual(joined(ascending[:5], ascending[:7], falling=True), ascending[7:] + ascending[:7])

    def test_more_than_twelve_entries(self):
        ascending = tuple(range(12))
        for rows in [[(0,)] * 13, [ascending, (0,)], [(0,), ascending], [ascending] * 3, [(1, 0)] * 7]:
            for falling in (False, True):
                with self.subTest(rows=rows, falling=falling):
                    with self.assertRaises(TooLong) as caught:
                        joined(*rows, falling=falling)
                    self.assertEqual(caught.exception.limit, 12)
        with self.assertRaises(TooLong) as caught:
            joined(ascending, (0,))
        self.assertEqual(caught.exception.limit, 12)


if __name__ == "__main__":
    unittest.main()

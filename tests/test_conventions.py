"""Promises that hold for all functions: arguments stay as they are, equal calls have equal results."""

import unittest
from copy import deepcopy

from rowfolds import blocks, rows
from rowfolds.errors import NoBlock, NoPlaces, NoRows, TooLong
from samples import OTHER_VALUES, ROWS

SOME_ROWS = ROWS[:40] + ROWS[-20:]


def outcome(function, arguments, keywords):
    """Return the result, or the error with its fields, so that two of them can be compared."""
    try:
        result = function(*arguments, **keywords)
    except (NoBlock, NoPlaces, NoRows, TooLong) as error:
        return (type(error), vars(error))
    return list(result) if function == blocks.each_block else result


def calls():
    for value in OTHER_VALUES + SOME_ROWS:
        yield rows.is_row, (value,), {}
        yield rows.row_error, (value,), {}
        yield rows.chosen, ((2, 0, 1, 3), value), {}
        yield blocks.is_block, ((2, 0, 1, 3), value), {}
        yield blocks.overlapping_block, ((2, 0, 1, 3), value), {}
    for row in SOME_ROWS:
        for function in (rows.pattern_of, rows.reversed_row, rows.flipped_row, rows.inverse_row):
            yield function, (row,), {}
        for function in (blocks.each_block, blocks.blocks_of, blocks.strong_blocks, blocks.is_plain):
            yield function, (row,), {}
        yield rows.chosen, (row, (0,)), {}
        yield rows.joined, (row, row), {}
        yield rows.joined, (row, (0,)), {"falling": True}
        yield blocks.blocks_of, (row,), {"least": 2, "most": 3}
        for block in list(blocks.each_block(row)):
            yield blocks.overlapping_block, (row, block), {}
    yield rows.joined, (), {}


class ConventionsTest(unittest.TestCase):
    def test_arguments_do_not_change(self):
        for function, arguments, keywords in calls():
            before = deepcopy((arguments, keywords))
            outcome(function, arguments, keywords)
            self.assertEqual(repr((arguments, keywords)), repr(before), function.__name__)

    def test_equal_calls_have_equal_results(self):
        for function, arguments, keywords in calls():
            result = outcome(function, arguments, keywords)
            again = outcome(function, *deepcopy((arguments, keywords)))
            self.assertEqual(repr(again), repr(result), function.__name__)

    def test_later_changes_have_no_effect_on_results(self):
        value = [0, 1]
        error = rows.row_error(value)
        value.clear()
        self.assertEqual(error, (None, "row"))

    def test_results_are_tuples_of_integers(self):
        for row in SOME_ROWS:
            for result in (rows.pattern_of(row), rows.reversed_row(row), rows.flipped_row(row),
                           rows.inverse_row(row), rows.chosen(row, (0,)), rows.joined(row)):
                self.assertIs(type(result), tuple)
                self.assertEqual({type(number) for number in result}, {int})
            for result in (blocks.blocks_of(row), blocks.strong_blocks(row)):
                self.assertIs(type(result), tuple)
                self.assertEqual({type(block) for block in result}, {tuple})
                self.assertEqual({type(place) for block in result for place in block}, {int})


if __name__ == "__main__":
    unittest.main()

"""Promises that hold for all functions: arguments stay as they are, equal calls have equal results."""

import unittest
from copy import deepcopy
from inspect import isgenerator

from bench_model import CLASSES, WORDS, told_by
from rowfolds import blocks, counting, folds, plans, rows, selections, texts, trees
from rowfolds.benches import Bench, LoggedFoldableBench
from rowfolds.errors import (
    BadEdit, BadEdits, BadOrder, BadRow, BadText, HasFour, LastOne, NoBlock, NoFold, NoIndex, NoNumber, NoPath, NoPlace,
    NoPlaces, NoRows, NotFoldable, NoVersion, Rejected, TooLong,
)
from rowfolds.shells import Shell
from samples import HUGE_PLAN, LARGE_TREES, OTHER_VALUES, ROWS, SMALL_PLANS, TREES_TO_FOUR

SOME_ROWS = ROWS[:40] + ROWS[-20:]
SOME_TREES = TREES_TO_FOUR + LARGE_TREES[::5]
SOME_PLANS = SMALL_PLANS[::7] + [HUGE_PLAN]
DOCUMENTED = (
    BadEdit, BadEdits, BadOrder, BadRow, BadText, HasFour, LastOne, NoBlock, NoFold, NoIndex, NoNumber, NoPath, NoPlace,
    NoPlaces, NoRows, NotFoldable, NoVersion, Rejected, TooLong,
)

R = (2, 0, 1, 3)
T = ("+", (("-", (".", ".")), "."))
P = (((1, 0), (-1, -1)), ((0, 1, 2), (0, -1, 0)))


def outcome(function, arguments, keywords):
    """Return the result, or the error with its fields, so that two of them can be compared."""
    try:
        result = function(*arguments, **keywords)
        return list(result) if isgenerator(result) else result
    except DOCUMENTED as error:
        return (type(error), vars(error))


def calls_with_any_value():
    takes_a_value = [rows.is_row, rows.row_error, trees.is_tree, counting.foldable_index, plans.is_plan,
                     texts.parse_row, texts.parse_tree, Bench.is_edit]
    takes_one_behind = [
        (rows.chosen, R), (blocks.is_block, R), (blocks.overlapping_block, R), (trees.part_at, T), (folds.folded, R),
        (folds.is_history, R), (folds.certificate_holds, R), (counting.foldable_at, 5), (plans.number_at, P),
        (plans.place_of, P), (selections.shows_longest, R),
    ]
    for value in OTHER_VALUES + SOME_ROWS + SOME_TREES[:10] + SOME_PLANS[:10]:
        for function in takes_a_value:
            yield function, (value,), {}
        for function, first in takes_one_behind:
            yield function, (first, value), {}


def calls_with_rows():
    for row in SOME_ROWS:
        for function in (rows.pattern_of, rows.reversed_row, rows.flipped_row, rows.inverse_row, blocks.each_block,
                         blocks.blocks_of, blocks.strong_blocks, blocks.is_plain, trees.tree_of, folds.folds_of,
                         folds.rest_of, folds.is_foldable, folds.find_four, folds.certificate,
                         selections.longest_rising, selections.smallest_cover, texts.row_text):
            yield function, (row,), {}
        yield rows.chosen, (row, (0,)), {}
        yield rows.joined, (row, row), {}
        yield rows.joined, (row, (0,)), {"falling": True}
        yield blocks.blocks_of, (row,), {"least": 2, "most": 3}
        for block in list(blocks.each_block(row)):
            yield blocks.overlapping_block, (row, block), {}
        for place in folds.folds_of(row):
            yield folds.folded, (row, place), {}
            yield folds.states_along, (row, (place,)), {}
        yield folds.certificate_holds, (row, folds.certificate(row)), {}
        yield selections.shows_longest, (row, (selections.longest_rising(row), selections.smallest_cover(row))), {}
        yield texts.parse_row, (texts.row_text(row),), {}
    yield rows.joined, (), {}


def calls_with_trees_and_plans():
    for tree in SOME_TREES:
        for function in (trees.row_of, trees.size_of, trees.count_blocks, plans.plan_of, texts.tree_text):
            yield function, (tree,), {}
        yield texts.parse_tree, (texts.tree_text(tree),), {}
        yield trees.part_at, (tree, (0, 0)), {}
    for n in range(1, 6):
        yield counting.count_foldable, (n,), {}
        yield counting.each_foldable, (n,), {}
        yield counting.foldable_at, (12 * n, 7), {}
    for plan in SOME_PLANS:
        for function in (plans.plan_size, plans.expand_plan, plans.inversions, plans.plan_is_foldable,
                         selections.rising_length, selections.falling_length):
            yield function, (plan,), {}
        for length in range(5):
            yield selections.count_rising, (plan, length), {}
        yield plans.number_at, (plan, 1), {}
        yield plans.place_of, (plan, 1), {}


def told_after(made_of, name, *arguments, **keywords):
    """Return the result of a method of a new bench, and what the bench tells afterwards."""
    bench = made_of(R)
    bench.turn(0, 0)
    result = getattr(bench, name)(*arguments, **keywords)
    return told_by(result) if name == "read" else result, told_by(bench)


def told_by_new(made_of, value):
    return told_by(made_of(value))


def shown(value):
    bench = Bench(R)
    return Shell(bench).execute(value), told_by(bench)


def calls_of_benches():
    lines = ["exchange 0", "insert 0 0", "remove 0", "turn 0 1", "turn 1 0", "undo", "row", "tree", "index", "rising"]
    for made_of in CLASSES:
        for value in OTHER_VALUES + SOME_ROWS[:10] + [["turn", 0, 0], [("turn", 0, 0)], (("turn", 0, 0),)]:
            yield told_by_new, (made_of, value), {}
            yield told_after, (made_of, "read", value), {}
            yield told_after, (made_of, "run", value), {}
            yield told_after, (made_of, "run", [("turn", 0, 0), value]), {}
            yield told_after, (made_of, "row"), {"version": value}
            yield told_after, (made_of, "tree"), {"version": value}
            for word in WORDS:
                yield told_after, (made_of, word, *[value] * (1 if word in ("exchange", "remove") else 2)), {}
        for edits in ([], [("exchange", 0), ("insert", 0, 0)], [("remove", [0])], [["remove", 0]]):
            yield told_after, (made_of, "run", edits), {}
    for value in OTHER_VALUES + lines:
        yield shown, (value,), {}


def calls():
    yield from calls_with_any_value()
    yield from calls_with_rows()
    yield from calls_with_trees_and_plans()
    yield from calls_of_benches()


class ConventionsTest(unittest.TestCase):
    def test_arguments_do_not_change(self):
        for function, arguments, keywords in calls():
            before = deepcopy((arguments, keywords))
            outcome(function, arguments, keywords)
            self.assertEqual(repr((arguments, keywords)), repr(before), function.__name__)

    def test_equal_calls_have_equal_results(self):
        for function, arguments, keywords in calls():
            result = outcome(function, arguments, keywords)
            again = outcome(function, *deepcopy((arguments, keywords)))
            self.assertEqual(repr(again), repr(result), function.__name__)

    def test_later_changes_have_no_effect_on_results(self):
        value = [0, 1]
        error = rows.row_error(value)
        value.clear()
        self.assertEqual(error, (None, "row"))
        edits = [("exchange", 0), ("turn", 0, 1)]
        bench = LoggedFoldableBench((0, 1, 2))
        bench.run(edits)
        before = told_by(bench)
        edits.append(("remove", 0))
        edits[0] = None
        self.assertEqual(told_by(bench), before)

    def test_results_are_tuples_of_integers(self):
        for row in SOME_ROWS:
            for result in (rows.pattern_of(row), rows.reversed_row(row), rows.flipped_row(row),
                           rows.inverse_row(row), rows.chosen(row, (0,)), rows.joined(row), folds.rest_of(row),
                           trees.row_of(trees.tree_of(row)), plans.expand_plan(((row, (-1,) * len(row)),)),
                           *folds.states_along(row, folds.folds_of(row)[:1])):
                self.assertIs(type(result), tuple)
                self.assertEqual({type(number) for number in result}, {int})
            for result in (blocks.blocks_of(row), blocks.strong_blocks(row)):
                self.assertIs(type(result), tuple)
                self.assertEqual({type(block) for block in result}, {tuple})
                self.assertEqual({type(place) for block in result for place in block}, {int})
            for result in (folds.folds_of(row), folds.certificate(row)[1], selections.longest_rising(row),
                           *selections.smallest_cover(row)):
                self.assertIs(type(result), tuple)
                self.assertLessEqual({type(place) for place in result}, {int})

    def test_numbers_are_integers(self):
        for tree in SOME_TREES:
            self.assertEqual({type(trees.size_of(tree)), type(trees.count_blocks(tree))}, {int})
        for plan in SOME_PLANS:
            results = [plans.plan_size(plan), plans.number_at(plan, 0), plans.place_of(plan, 0), plans.inversions(plan),
                       selections.rising_length(plan), selections.falling_length(plan),
                       *[selections.count_rising(plan, length) for length in range(5)]]
            self.assertEqual({type(result) for result in results}, {int})
        for n in (1, 2, 60):
            self.assertIs(type(counting.count_foldable(n)), int)
            self.assertIs(type(counting.foldable_index(tuple(range(n)))), int)


if __name__ == "__main__":
    unittest.main()

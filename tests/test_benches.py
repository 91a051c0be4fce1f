import unittest
from itertools import product

from bench_model import (
    CLASSES, WORDS, Model, direct_is_edit, direct_rest, do, drawn_edit, good_edits, outcome_of, same_outcome, told_by,
)
from rowfolds.benches import Bench, FoldableBench, LoggedBench, LoggedFoldableBench
from rowfolds.bounds import EDITS
from rowfolds.errors import BadRow, BadText, HasFour
from rowfolds.rows import row_error
from rowfolds.texts import parse_row
from rowfolds.trees import tree_of
from samples import (
    LARGE_ROWS, LARGE_TREES, OTHER_VALUES, ROWS, ROWS_TO_SIX, SMALL_ROWS, TWELVE, Draws, direct_folds, direct_fours,
    direct_row, variants,
)

R = (2, 0, 1, 3)
S = (1, 3, 0, 2)
ROWS_TO_FOUR = [row for row in SMALL_ROWS if len(row) < 5]
FOLDABLE_ROWS = [row for row in SMALL_ROWS + LARGE_ROWS + [direct_row(tree) for tree in LARGE_TREES]
                 if not direct_fours(row)]
ASCENDING = tuple(range(12))
SOME_ROWS = ROWS_TO_FOUR + [(4, 1, 3, 0, 2), (0, 2, 1, 4, 3, 5), ASCENDING[:11], ASCENDING, TWELVE]
NO_INTEGERS = [None, True, False, "", "0", "1", (), (0,), [], [0], {}, {"0": 0}, (True,), [False], "x" * 2000]
FAR = [-(10 ** 59), 10 ** 59, 10 ** 12]


def arguments_for(row):
    """Return the integers from just below the places of a row to just above, and other values."""
    return list(range(-2, len(row) + 3)) + FAR + NO_INTEGERS


class BenchTestCase(unittest.TestCase):
    def assert_outcome(self, outcome, expected, *context):
        self.assertTrue(same_outcome(outcome, expected), (outcome, expected, *context))

    def assert_told(self, bench, model):
        self.assertEqual(told_by(bench), model.told())


class ConstructorTest(BenchTestCase):
    def test_rows(self):
        for row in ROWS:
            for made_of in (Bench, LoggedBench):
                self.assert_told(made_of(row), Model(made_of, row))
        for row in FOLDABLE_ROWS:
            for made_of in (FoldableBench, LoggedFoldableBench):
                self.assert_told(made_of(row), Model(made_of, row))

    def check_bad_row(self, value):
        error = row_error(value)
        if error is None:
            return
        for made_of in CLASSES:
            with self.assertRaises(BadRow, msg=str(value)[:80]) as caught:
                made_of(value)
            self.assertEqual(caught.exception.error, error)

    def test_values_that_are_no_rows(self):
        for value in OTHER_VALUES + [[0], [2, 0, 1], (0, 0), (1, 3, 0, 2, 2), (1, 3, 0, 2, 5), [1, 3, 0, 2], "0", "0 1",
                                     tuple(range(13)), (True, False), (1, False), Bench((0,))]:
            self.assertIsNotNone(row_error(value))
            self.check_bad_row(value)
        others = [None, True, False, -1, 0, 1, 12, "0", (), [0]]
        for row in [(0,), (1, 0), (2, 0, 1), S, TWELVE]:
            for value in variants(row, others):
                self.check_bad_row(value)

    def test_rows_with_a_four(self):
        for row in ROWS_TO_SIX + LARGE_ROWS:
            fours = direct_fours(row)
            for made_of in (FoldableBench, LoggedFoldableBench):
                if fours:
                    with self.assertRaises(HasFour) as caught:
                        made_of(row)
                    self.assertIn(caught.exception.places, fours)
                else:
                    self.assertEqual(made_of(row).row(), row)

    def test_class_values(self):
        for made_of in CLASSES:
            for holder in (made_of, made_of((0,))):
                self.assertEqual(holder.MOST_EDITS, 60)
                self.assertEqual(holder.WORDS, ("exchange", "insert", "remove", "turn"))
        self.assertEqual(Bench.MOST_EDITS, EDITS)

    def test_two_benches_have_nothing_in_common(self):
        for made_of in CLASSES:
            first, second = made_of((0, 1, 2)), made_of((0, 1, 2))
            first.exchange(0)
            self.assertEqual(second.row(), (0, 1, 2))
            self.assertEqual([len(first), len(second)], [1, 0])
            if made_of in (LoggedBench, LoggedFoldableBench):
                self.assertEqual([first.log, second.log], [(("exchange", 1),), ()])


class ReadTest(BenchTestCase):
    def test_rows(self):
        for row in FOLDABLE_ROWS:
            text = " ".join(map(str, row))
            for made_of in CLASSES:
                bench = made_of.read(text)
                self.assertIs(type(bench), made_of)
                self.assert_told(bench, Model(made_of, row))

    def test_read_on_an_object(self):
        for made_of in CLASSES:
            self.assertIs(type(made_of((0,)).read("1 0")), made_of)

    def test_texts_and_values_that_are_not_the_text_of_a_row(self):
        texts = ["", " ", "x", "0 ", " 0", "0  1", "1 0 x", "0 0", "1", "0 2", "00", "0 01", "+0", "-0", "1_0", "1000",
                 "5 0 1000", "1 3 0 2 2", "1 3 0 2 x", " ".join(map(str, range(13))), "(0,)", "0\n", "0,1"]
        for value in texts + OTHER_VALUES:
            expected = outcome_of(parse_row, value)
            if expected[0] == "BadText":
                for made_of in CLASSES:
                    with self.assertRaises(BadText, msg=str(value)[:80]) as caught:
                        made_of.read(value)
                    self.assertEqual(repr(caught.exception.error), repr(expected[1]))
        for text in texts:
            self.assertEqual(outcome_of(parse_row, text)[0], "BadText")

    def test_texts_of_rows_with_a_four(self):
        for row in [S, S[::-1], (0, 2, 4, 1, 3), TWELVE]:
            text = " ".join(map(str, row))
            for made_of in (Bench, LoggedBench):
                self.assertEqual(made_of.read(text).row(), row)
            for made_of in (FoldableBench, LoggedFoldableBench):
                with self.assertRaises(HasFour) as caught:
                    made_of.read(text)
                self.assertIn(caught.exception.places, direct_fours(row))


class IsEditTest(unittest.TestCase):
    EDITS = [("exchange", 0), ("insert", 0, 0), ("remove", 0), ("turn", 0, 0), ("exchange", None), ("insert", [], {}),
             ("remove", (0,)), ("turn", "0", True), ("exchange", -1), ("insert", 99, 10 ** 59), ("remove", "remove"),
             ("turn", ("turn", 0, 0), [[]])]

    def check(self, value, expected):
        for made_of in CLASSES:
            self.assertIs(made_of.is_edit(value), expected, str(value)[:80])
        self.assertIs(Bench((0,)).is_edit(value), expected)

    def test_edits(self):
        for edit in self.EDITS:
            self.check(edit, True)
        for word, argument in product(WORDS, NO_INTEGERS + FAR):
            many = 1 if word in ("exchange", "remove") else 2
            self.check((word, *[argument] * many), True)

    def test_numbers_of_arguments(self):
        for word, many in product(WORDS, range(6)):
            self.check((word, *[0] * many), many == (1 if word in ("exchange", "remove") else 2))

    def test_one_part_replaced(self):
        others = [None, True, False, 0, 1, "", "exchange", "insert", "remove", "turn", "undo", "run", "read", "row",
                  "is_edit", "Exchange", "turn ", "exchange 0", (), (0,), [], {}, ("exchange",), ["exchange"],
                  ("exchange", 0), b"exchange"]
        for edit in self.EDITS:
            for value in variants(edit, others):
                self.check(value, direct_is_edit(value))

    def test_other_values(self):
        for value in OTHER_VALUES + ["exchange", "exchange 0", ["exchange", 0], ("exchange",), {"exchange": 0},
                                     ("undo",), ("run", ()), (("exchange", 0),), ("e", 0), "ex", ("", 0), Bench((0,)),
                                     (Bench((0,)), 0), (["exchange"], 0), ({}, 0, 0), (("turn",), 0, 0)]:
            self.check(value, False)


class EditTest(BenchTestCase):
    def check(self, made_of, row, edit):
        bench, model = made_of(row), Model(made_of, row)
        before = told_by(bench)
        expected = model.edit(edit)
        self.assert_outcome(do(bench, edit), expected, row, str(edit)[:80])
        if expected[0] == "returns":
            self.assertEqual((bench.row(), bench.edits()), (model.rows[1], (edit,)))
            self.assertEqual(told_by(bench), model.told())
        else:
            self.assertEqual(told_by(bench), before)
        return expected[0]

    def test_exchange_and_remove_at_all_places_and_beyond(self):
        for row in SOME_ROWS:
            for word, place in product(("exchange", "remove"), arguments_for(row)):
                self.check(Bench, row, (word, place))

    def test_insert_and_turn_at_all_places_and_beyond(self):
        for row in SOME_ROWS[:4] + SOME_ROWS[4::6] + SOME_ROWS[-3:]:
            for word, first, last in product(("insert", "turn"), arguments_for(row), arguments_for(row)):
                self.check(Bench, row, (word, first, last))

    def test_edits_of_all_classes(self):
        names = set()
        for made_of in CLASSES:
            for row in [(0,), (0, 1), R, (1, 0, 3, 2), (0, 2, 1, 4, 3), ASCENDING]:
                values = list(range(-1, len(row) + 2)) + [True, False, None, [0], "0"]
                for word, place in product(("exchange", "remove"), values):
                    names.add(self.check(made_of, row, (word, place)))
                for word, first, last in product(("insert", "turn"), values, values):
                    names.add(self.check(made_of, row, (word, first, last)))
        self.assertEqual(names, {"returns", "NoPlace", "NoNumber", "TooLong", "LastOne", "BadOrder", "HasFour"})

    def test_one_edit_after_another(self):
        bench = Bench(R)
        self.assertEqual([bench.insert(4, 0), bench.row()], [1, (3, 1, 2, 4, 0)])
        self.assertEqual([bench.insert(0, 5), bench.row()], [2, (5, 3, 1, 2, 4, 0)])
        self.assertEqual([bench.insert(3, 3), bench.row()], [3, (6, 4, 1, 3, 2, 5, 0)])
        self.assertEqual([bench.turn(1, 1), bench.row()], [4, (6, 4, 1, 3, 2, 5, 0)])
        self.assertEqual([bench.turn(0, 6), bench.row()], [5, (0, 5, 2, 3, 1, 4, 6)])

    def test_which_error_comes_first(self):
        one, twelve = Bench((0,)), Bench(ASCENDING)
        wrong = [None, True, False, -1, 99, "0", [0], (0,)]
        for value, other in product(wrong, wrong):
            for bench in (one, twelve, Bench(R)):
                self.assert_outcome(do(bench, ("insert", value, other)), ("NoPlace", value))
                self.assert_outcome(do(bench, ("insert", 0, other)), ("NoNumber", other))
                self.assert_outcome(do(bench, ("turn", value, other)), ("NoPlace", value))
                self.assert_outcome(do(bench, ("turn", 0, other)), ("NoPlace", other))
                self.assert_outcome(do(bench, ("turn", value, 0)), ("NoPlace", value))
            self.assert_outcome(do(one, ("remove", value)), ("NoPlace", value))
            self.assert_outcome(do(one, ("exchange", value)), ("NoPlace", value))
        self.assert_outcome(do(one, ("remove", 0)), ("LastOne",))
        self.assert_outcome(do(one, ("exchange", 0)), ("NoPlace", 0))
        self.assert_outcome(do(twelve, ("insert", 12, 12)), ("TooLong", 12))
        self.assert_outcome(do(twelve, ("insert", 13, 12)), ("NoPlace", 13))
        self.assert_outcome(do(twelve, ("insert", 12, 13)), ("NoNumber", 13))
        self.assert_outcome(do(twelve, ("turn", 11, 0)), ("BadOrder", 11, 0))
        self.assert_outcome(do(twelve, ("turn", 12, 0)), ("NoPlace", 12))
        for bench in (one, twelve):
            self.assertEqual((bench.version, bench.edits(), len(list(bench.walk()))), (0, (), 1))

    def test_the_four_comes_after_the_errors_of_the_edit(self):
        for made_of in (FoldableBench, LoggedFoldableBench):
            bench = made_of((1, 0, 3, 2))
            for edit in [("exchange", 3), ("exchange", True), ("remove", 4), ("turn", 4, 1), ("turn", 2, 1),
                         ("insert", 5, 1), ("insert", 1, 5), ("insert", 2, None)]:
                self.assertNotIn(do(bench, edit)[0], ("HasFour", "returns"))
            twelve = made_of(tuple(range(8)) + (9, 8, 11, 10))
            self.assert_outcome(do(twelve, ("insert", 10, 9)), ("TooLong", 12))
            self.assertEqual(do(twelve, ("exchange", 9))[0], "HasFour")
            self.assertEqual(do(twelve, ("turn", 9, 10))[0], "HasFour")
            self.assertEqual([bench.version, twelve.version], [0, 0])

    def test_later_changes_to_an_argument(self):
        place = [0]
        bench = Bench(R)
        outcome = outcome_of(bench.exchange, place)
        place.append(1)
        self.assertIs(outcome[1], place)
        self.assertEqual(told_by(bench), told_by(Bench(R)))


class ManyEditsTest(BenchTestCase):
    """Sixty edits may stand."""

    def check_full(self, bench):
        before = told_by(bench)
        self.assertEqual(before["version"], 60)
        for word in WORDS:
            many = 1 if word in ("exchange", "remove") else 2
            for argument in [0, 1, -1, 99, None, True, [0]]:
                self.assertEqual(do(bench, (word, *[argument] * many)), ("TooManyEdits",))
                self.assertEqual(outcome_of(bench.run, [(word, *[argument] * many)]), ("Rejected", 0))
        self.assertEqual(outcome_of(bench.turn, 2, 0), ("TooManyEdits",))
        self.assertEqual(outcome_of(bench.insert, None, None), ("TooManyEdits",))
        self.assertEqual(outcome_of(bench.run, 5), ("BadEdits",))
        self.assertEqual(outcome_of(bench.run, [("turn", 0, 0), ("turn",)]), ("BadEdit", 1))
        self.assertEqual(told_by(bench), before)

    def test_one_by_one(self):
        draws = Draws(51)
        for made_of in CLASSES:
            for row in [(0,), (1, 0, 2), (2, 0, 1, 3, 4, 5), ASCENDING]:
                bench, model = made_of(row), Model(made_of, row)
                for edit in good_edits(made_of, row, 60, draws):
                    self.assert_outcome(do(bench, edit), model.edit(edit))
                self.assert_told(bench, model)
                self.check_full(bench)

    def test_by_runs(self):
        draws = Draws(52)
        for made_of in CLASSES:
            for many in (1, 7, 12, 20):
                bench, model = made_of(R), Model(made_of, R)
                edits = good_edits(made_of, R, 60, draws)
                for first in range(0, 60, many):
                    self.assert_outcome(outcome_of(bench.run, edits[first:first + many]),
                                        model.run(edits[first:first + many]))
                self.assert_told(bench, model)
                self.check_full(bench)

    def test_undo_and_one_more(self):
        for made_of in CLASSES:
            bench = made_of((0, 1, 2))
            for version in range(1, 61):
                self.assertEqual(bench.exchange(version % 2), version)
            for word, *arguments in [("exchange", 0), ("insert", 3, 3), ("remove", 0), ("turn", 0, 2)]:
                self.assertEqual(bench.undo(), 59)
                self.assertEqual(getattr(bench, word)(*arguments), 60)
                self.assertEqual(bench.edits()[-1], (word, *arguments))
                self.assertEqual(do(bench, (word, *arguments)), ("TooManyEdits",))
            self.assertEqual(bench.run([]), 60)
            self.assertEqual(bench.undo(), 59)
            self.assertEqual(bench.run([("turn", 0, 0)]), 60)
            self.check_full(bench)

    def test_too_many_edits_comes_before_a_four(self):
        for made_of in (FoldableBench, LoggedFoldableBench):
            bench = made_of((1, 0, 3, 2))
            for version in range(60):
                bench.turn(0, 0)
            self.assertEqual(outcome_of(bench.exchange, 1), ("TooManyEdits",))
            bench.undo()
            self.assertEqual(outcome_of(bench.exchange, 1)[0], "HasFour")


class UndoTest(BenchTestCase):
    def test_until_nothing_is_left(self):
        draws = Draws(53)
        for made_of in CLASSES:
            for row in [(0,), R, ASCENDING]:
                bench, model = made_of(row), Model(made_of, row)
                self.assert_outcome(outcome_of(bench.undo), ("NothingToUndo",))
                for edit in good_edits(made_of, row, 25, draws):
                    do(bench, edit)
                    model.edit(edit)
                while model.done:
                    self.assert_outcome(outcome_of(bench.undo), model.undo())
                    self.assert_told(bench, model)
                for _ in range(3):
                    self.assert_outcome(outcome_of(bench.undo), ("NothingToUndo",))
                    self.assert_told(bench, model)
                self.assertEqual(bench.row(), row)

    def test_the_earlier_state_is_restored(self):
        draws = Draws(54)
        for made_of in CLASSES:
            bench = made_of(R)
            states = []
            for edit in good_edits(made_of, R, 20, draws):
                states.append({**told_by(bench), "log": None})
                do(bench, edit)
            while states:
                bench.undo()
                self.assertEqual({**told_by(bench), "log": None}, states.pop())


class QueryTest(BenchTestCase):
    def edited(self, made_of, row=R, many=15):
        bench, model = made_of(row), Model(made_of, row)
        for edit in good_edits(made_of, row, many, Draws(55)):
            do(bench, edit)
            model.edit(edit)
        return bench, model

    def test_properties_cannot_be_assigned(self):
        for made_of in CLASSES:
            bench, model = self.edited(made_of)
            for name in ("version", "size", "rest") + (("log",) if model.logged else ()):
                for value in (0, 1, (0,), None):
                    with self.assertRaises(AttributeError):
                        setattr(bench, name, value)
                with self.assertRaises(AttributeError):
                    delattr(bench, name)
            self.assert_told(bench, model)

    def test_rest(self):
        for row in ROWS_TO_SIX + LARGE_ROWS:
            rest = Bench(row).rest
            self.assertEqual(rest, direct_rest(row))
            self.assertEqual(direct_folds(rest), [])

    def test_all_versions(self):
        for made_of in CLASSES:
            bench, model = self.edited(made_of)
            self.assertEqual(len(model.rows), 16)
            for version, row in enumerate(model.rows):
                self.assertEqual(bench.row(version=version), row)
                self.assertEqual(bench.tree(version=version), tree_of(row))
            self.assertEqual([bench.row(), bench.row(version=None)], [model.rows[-1]] * 2)
            self.assertEqual([bench.tree(), bench.tree(version=None)], [tree_of(model.rows[-1])] * 2)
            bench.undo()
            self.assertEqual(bench.row(version=14), model.rows[14])
            self.assertEqual(outcome_of(bench.row, version=15), ("NoVersion", 15))

    def test_values_that_are_no_versions(self):
        for made_of in CLASSES:
            for many in (0, 1, 2, 15):
                bench, model = self.edited(made_of, many=many)
                others = [-1, -2, many + 1, many + 2, -many - 1, 60, 61] + FAR
                others += [value for value in OTHER_VALUES + NO_INTEGERS if type(value) not in (int, type(None))]
                for value in others:
                    self.assert_outcome(outcome_of(bench.row, version=value), ("NoVersion", value))
                    self.assert_outcome(outcome_of(bench.tree, version=value), ("NoVersion", value))
                for value in (True, False):
                    self.assert_outcome(outcome_of(bench.row, version=value), ("NoVersion", value))
                self.assert_told(bench, model)

    def test_version_is_passed_by_keyword(self):
        self.assertRaises(TypeError, Bench(R).row, 0)
        self.assertRaises(TypeError, Bench(R).tree, 0)

    def test_walk(self):
        for made_of in CLASSES:
            bench, model = self.edited(made_of)
            walk = bench.walk()
            self.assertEqual([next(walk), next(walk)], [(0, R), (1, model.rows[1])])
            walk.close()
            self.assertEqual(list(zip(bench.walk(), bench.walk())), [(item, item) for item in enumerate(model.rows)])
            self.assert_told(bench, model)

    def test_kinds_of_results(self):
        for made_of in CLASSES:
            bench, model = self.edited(made_of)
            results = [bench.version, bench.size, bench.rest, bench.row(), bench.edits(), len(bench), str(bench)]
            self.assertEqual([type(result) for result in results], [int, int, tuple, tuple, tuple, int, str])
            self.assertEqual({type(item) for item in bench.walk()}, {tuple})
            self.assertEqual({type(edit) for edit in bench.edits()}, {tuple})

    def test_str(self):
        bench = Bench((0,))
        self.assertEqual(str(bench), "1 places, 0 edits")
        bench.insert(0, 0)
        self.assertEqual(str(bench), "2 places, 1 edits")
        bench.remove(0)
        self.assertEqual(str(bench), "1 places, 2 edits")
        self.assertEqual(str(LoggedFoldableBench(ASCENDING)), "12 places, 0 edits")

    def test_results_depend_on_the_current_row_only(self):
        draws = Draws(56)
        for made_of in CLASSES:
            bench, model = self.edited(made_of)
            for _ in range(20):
                edit = drawn_edit(draws, bench.size)
                do(bench, edit)
                fresh = made_of(bench.row())
                self.assertEqual([bench.row(), bench.tree(), bench.size, bench.rest],
                                 [fresh.row(), fresh.tree(), fresh.size, fresh.rest])
                self.assertTrue(bench == fresh)


class EqualityTest(unittest.TestCase):
    def test_between_all_classes(self):
        rows = [(0,), (0, 1), (1, 0), (0, 1, 2), (2, 0, 1), (1, 0, 3, 2)]
        for first, second in product(CLASSES, repeat=2):
            for row, other in product(rows, repeat=2):
                here, there = first(row), second(other)
                self.assertIs(here == there, row == other)
                self.assertIs(here != there, row != other)
                here.turn(0, 0)
                self.assertIs(here == there, row == other)
                there.turn(0, len(other) - 1)
                self.assertIs(here == there, row == other[::-1])
                there.undo()
                self.assertIs(there == here, row == other)

    def test_other_values(self):
        for made_of in CLASSES:
            bench = made_of((1, 0))
            for value in OTHER_VALUES + [(1, 0), [1, 0], "1 0", "2 places, 0 edits", bench.tree(), made_of, object()]:
                self.assertIs(bench == value, False)
                self.assertIs(value == bench, False)
                self.assertIs(bench != value, True)
        self.assertIs(Bench((0,)) == (0,), False)
        self.assertTrue(Bench((0,)) in [None, (0,), Bench((0,))])


class FamilyTest(BenchTestCase):
    def test_which_class_derives_from_which(self):
        self.assertEqual(FoldableBench.__bases__, (Bench,))
        self.assertEqual(LoggedBench.__bases__, (Bench,))
        self.assertEqual(LoggedFoldableBench.__bases__, (LoggedBench, FoldableBench))
        self.assertEqual(Bench.__bases__, (object,))

    def test_only_two_classes_have_a_log(self):
        for made_of in CLASSES:
            self.assertEqual(hasattr(made_of((0,)), "log"), made_of in (LoggedBench, LoggedFoldableBench))

    def test_all_exchanges_of_foldable_rows(self):
        for made_of in (FoldableBench, LoggedFoldableBench):
            found = 0
            for row in FOLDABLE_ROWS:
                for place in range(len(row) - 1):
                    bench, model = made_of(row), Model(made_of, row)
                    expected = model.edit(("exchange", place))
                    self.assert_outcome(do(bench, ("exchange", place)), expected, row)
                    self.assertEqual((bench.row(), bench.edits()), (model.rows[-1], tuple(model.done)))
                    found += expected[0] == "HasFour"
            self.assertGreater(found, 100)

    def test_the_log(self):
        for made_of in (LoggedBench, LoggedFoldableBench):
            bench = made_of((0, 1, 2))
            self.assertEqual(bench.log, ())
            bench.exchange(0)
            bench.insert(0, 0)
            bench.turn(0, 1)
            bench.remove(3)
            bench.run([("exchange", 0), ("exchange", 0)])
            bench.run(())
            bench.undo()
            kept = bench.log
            expected = (("exchange", 1), ("insert", 2), ("turn", 3), ("remove", 4), ("run", 6), ("run", 6), ("undo", 5))
            self.assertEqual(kept, expected)
            self.assertIs(type(kept), tuple)
            while bench.version:
                bench.undo()
            self.assertEqual(bench.log, expected + tuple(("undo", version) for version in (4, 3, 2, 1, 0)))
            self.assertEqual(kept, expected)

    def test_calls_that_raise_an_error_add_no_row(self):
        for made_of in (LoggedBench, LoggedFoldableBench):
            bench = made_of((1, 0, 3, 2))
            for call, arguments in [(bench.exchange, (9,)), (bench.insert, (0, None)), (bench.remove, (True,)),
                                    (bench.turn, (1, 0)), (bench.undo, ()), (bench.run, (None,)),
                                    (bench.run, ([("exchange", 0), ("exchange", 9)],)), (bench.run, ([0],))]:
                self.assertNotEqual(outcome_of(call, *arguments)[0], "returns")
                self.assertEqual(bench.log, ())
        bench = LoggedFoldableBench((1, 0, 3, 2))
        self.assertEqual(outcome_of(bench.exchange, 1), ("HasFour", (0, 1, 2, 3)))
        self.assertEqual(outcome_of(bench.run, [("turn", 0, 0), ("exchange", 1)]), ("Rejected", 1))
        self.assertEqual(bench.log, ())

    def test_queries_add_no_row(self):
        for made_of in (LoggedBench, LoggedFoldableBench):
            bench = made_of(R)
            bench.turn(0, 0)
            told_by(bench)
            outcome_of(bench.row, version=5)
            bench.row(version=0), bench.tree(version=1), bench == made_of(R), made_of.read("0"), bench.is_edit(())
            self.assertEqual(bench.log, (("turn", 1),))


class DrawnCallsTest(BenchTestCase):
    """Long sequences of calls, each compared with the model."""

    def drawn_call(self, draws, size):
        """Return the name of a method and its argument for the model: an edit, nothing, or the edits of a run."""
        number = draws.below(10)
        if number < 2:
            return ("undo",)
        if number < 8:
            edit = drawn_edit(draws, size)
            wrong = draws.below(12) == 0
            return ("edit", edit[:-1] + (draws.item(NO_INTEGERS + FAR),) if wrong else edit)
        edits = [drawn_edit(draws, size, past=0) for _ in range(draws.below(5))]
        return ("run", draws.item((list, tuple))(edits))

    def test_drawn_calls(self):
        seen = set()
        for seed, made_of in product(range(6), CLASSES):
            draws = Draws(60 + seed)
            row = draws.item(FOLDABLE_ROWS)
            bench, model = made_of(row), Model(made_of, row)
            for _ in range(150):
                name, *arguments = self.drawn_call(draws, bench.size)
                expected = getattr(model, name)(*arguments)
                outcome = do(bench, arguments[0]) if name == "edit" else outcome_of(getattr(bench, name), *arguments)
                self.assert_outcome(outcome, expected, name, str(arguments)[:80])
                self.assert_told(bench, model)
                seen.add(expected[0])
        expected = {"returns", "NoPlace", "NoNumber", "BadOrder", "HasFour", "Rejected", "TooManyEdits"}
        self.assertLessEqual(expected, seen)

    def test_equal_calls_have_equal_results(self):
        for made_of in CLASSES:
            draws = Draws(70)
            first, second = made_of(R), made_of(R)
            for _ in range(100):
                name, *arguments = self.drawn_call(draws, first.size)
                outcomes = [do(bench, arguments[0]) if name == "edit" else outcome_of(getattr(bench, name), *arguments)
                            for bench in (first, second)]
                self.assertEqual(outcomes[0], outcomes[1])
                self.assertEqual(told_by(first), told_by(second))
                self.assertEqual(told_by(first), told_by(first))


if __name__ == "__main__":
    unittest.main()

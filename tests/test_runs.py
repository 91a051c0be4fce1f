"""Runs of a bench, and what on_step sees and may do."""

import unittest
from itertools import product

from bench_model import (
    CLASSES, WORDS, Model, direct_is_edit, do, drawn_edit, good_edits, outcome_of, same_outcome, told_by,
)
from rowfolds.benches import Bench, FoldableBench, LoggedBench, LoggedFoldableBench
from rowfolds.bounds import BATCH
from rowfolds.errors import BadRow, Busy, HasFour, NoPlace, NothingToUndo, Rejected
from rowfolds.trees import tree_of
from samples import OTHER_VALUES, Draws, variants

R = (2, 0, 1, 3)
FOLDABLE = (1, 0, 3, 2)
STAY = ("turn", 0, 0)
NO_EDITS = [None, True, 0, "", "exchange", "turn 0 0", (), [], {}, ("exchange",), ("exchange", 0, 0), ["exchange", 0],
            ("undo",), ("run", []), ("row",), ("insert", 0), ("turn", 0), ("remove",), (("remove", 0),),
            [("remove", 0)]]
# Edits of the row (1, 0, 3, 2) that raise an error, on a foldable bench or on any bench.
WRONG_EDITS = [("exchange", 3), ("exchange", -1), ("exchange", True), ("exchange", None), ("insert", 5, 0),
               ("insert", 0, 5), ("insert", [0], 0), ("insert", 0, "0"), ("remove", 4), ("remove", False),
               ("turn", 4, 4), ("turn", 0, 4), ("turn", 2, 1), ("turn", (), {})]


class Stop(BaseException):
    """An exception that is no error."""


class Refused(Exception):
    """An error that the package does not know."""


class RunTestCase(unittest.TestCase):
    def assert_outcome(self, outcome, expected, *context):
        self.assertTrue(same_outcome(outcome, expected), (outcome, expected, *context))

    def assert_unchanged(self, bench, before):
        """See that the bench is as before, and that it can be edited again."""
        self.assertEqual(told_by(bench), before)
        version = before["version"]
        self.assertEqual([bench.turn(0, 0), bench.undo()], [version + 1, version])

    def begun(self, made_of):
        """Return a bench with three edits."""
        bench = made_of((0, 1, 2, 3))
        bench.run([("exchange", 0), ("exchange", 2), STAY])
        self.assertEqual(bench.row(), FOLDABLE)
        return bench


class BatchTest(RunTestCase):
    def test_up_to_twenty_edits(self):
        draws = Draws(81)
        for made_of, many in product(CLASSES, range(BATCH + 1)):
            edits = good_edits(made_of, R, many, draws)
            for batch in (list(edits), tuple(edits)):
                bench, model = made_of(R), Model(made_of, R)
                self.assert_outcome(outcome_of(bench.run, batch), model.run(batch))
                self.assertEqual(bench.version, many)
                self.assertEqual(told_by(bench), model.told())
                self.assertEqual(batch, type(batch)(edits))

    def test_more_than_twenty(self):
        for made_of in CLASSES:
            bench = self.begun(made_of)
            before = told_by(bench)
            for many in (21, 22, 60, 61, 900):
                for batch in ([STAY] * many, (STAY,) * many, [None] * many, [("exchange", 99)] * many):
                    self.assertEqual(outcome_of(bench.run, batch), ("BadEdits",))
                    self.assertEqual(outcome_of(bench.run, batch, on_step=self.fail), ("BadEdits",))
            self.assert_unchanged(bench, before)

    def test_values_that_are_no_lists_or_tuples(self):
        for made_of in CLASSES:
            bench = self.begun(made_of)
            before = told_by(bench)
            for value in [None, True, False, 0, 1, 10 ** 59, "", "turn", "turn 0 0", {}, {"turn": (0, 0)},
                          {"0": STAY}, b"", Bench((0,)), bench]:
                self.assertEqual(outcome_of(bench.run, value), ("BadEdits",))
                self.assertEqual(outcome_of(bench.run, value, on_step=self.fail), ("BadEdits",))
            self.assert_unchanged(bench, before)

    def test_items_that_are_no_edits(self):
        for made_of in CLASSES:
            bench = self.begun(made_of)
            before = told_by(bench)
            for at, wrong in product((0, 1, 5, 19), NO_EDITS):
                for first in (STAY, ("exchange", 99)):
                    batch = [first] * at + [wrong] + [STAY] * (19 - at)
                    for edits in (batch, tuple(batch), batch[:at + 1], batch[:at + 1] + NO_EDITS[:19 - at]):
                        self.assertEqual(outcome_of(bench.run, edits), ("BadEdit", at))
                        self.assertEqual(outcome_of(bench.run, edits, on_step=self.fail), ("BadEdit", at))
            self.assert_unchanged(bench, before)

    def test_other_values(self):
        bench = self.begun(Bench)
        model = Model(Bench, FOLDABLE)
        for value in OTHER_VALUES:
            self.assert_outcome(outcome_of(Bench(FOLDABLE).run, value), model.run(value), str(value)[:80])
            if not direct_is_edit(value):
                self.assertEqual(outcome_of(bench.run, [STAY, value]), ("BadEdit", 1))
        edits = (("exchange", 0), ("insert", 1, 2), ("remove", 3), ("turn", 0, 2))
        for value in variants(edits, [None, True, 0, 9, "", "turn", (), [], STAY, ("turn",)]):
            bench, model = Bench(FOLDABLE), Model(Bench, FOLDABLE)
            self.assert_outcome(outcome_of(bench.run, value), model.run(value), value)
            self.assertEqual(told_by(bench), model.told())

    def test_the_empty_run(self):
        for made_of in CLASSES:
            for batch in ([], ()):
                bench = self.begun(made_of)
                self.assertEqual(bench.run(batch, on_step=self.fail), 3)
                self.assertEqual(bench.run(batch), 3)
                self.assertEqual(bench.row(), FOLDABLE)
                self.assertEqual(made_of((0,)).run(batch), 0)

    def test_arguments(self):
        self.assertRaises(TypeError, Bench(R).run, [], None)
        self.assertRaises(TypeError, Bench(R).run)


class RejectedTest(RunTestCase):
    def test_an_edit_that_raises_an_error(self):
        for made_of in CLASSES:
            bench = self.begun(made_of)
            before = told_by(bench)
            for at, wrong in product((0, 1, 7, 19), WRONG_EDITS):
                batch = [STAY] * at + [wrong] + [("exchange", 99)] * (19 - at)
                for edits in (batch, tuple(batch), batch[:at + 1]):
                    self.assertEqual(outcome_of(bench.run, edits), ("Rejected", at))
                    self.assertEqual(told_by(bench), before)
            self.assert_unchanged(bench, before)

    def test_edits_before_it_are_undone(self):
        for made_of in CLASSES:
            bench = self.begun(made_of)
            before = told_by(bench)
            batch = [("remove", 0), ("insert", 0, 0), ("turn", 0, 3), ("exchange", 2), ("remove", 0), ("remove", 3)]
            self.assertEqual(outcome_of(bench.run, batch), ("Rejected", 5))
            self.assert_unchanged(bench, before)
            self.assertEqual(bench.run(batch[:5]), 8)

    def test_the_last_entry_and_too_many_places(self):
        for made_of in CLASSES:
            bench = made_of((0, 1))
            self.assertEqual(outcome_of(bench.run, [("remove", 0), ("remove", 0)]), ("Rejected", 1))
            self.assertEqual(outcome_of(bench.run, [("insert", 0, 0)] * 11), ("Rejected", 10))
            self.assertEqual(told_by(bench), told_by(made_of((0, 1))))
            self.assertEqual([bench.run([("insert", 0, 0)] * 10), bench.size], [10, 12])

    def test_a_four(self):
        for made_of in (FoldableBench, LoggedFoldableBench):
            bench = self.begun(made_of)
            before = told_by(bench)
            self.assertEqual(outcome_of(bench.run, [STAY, STAY, ("exchange", 1), STAY]), ("Rejected", 2))
            # The row has a four in between only.
            self.assertEqual(outcome_of(bench.run, [("exchange", 1), ("exchange", 1)]), ("Rejected", 0))
            self.assertEqual(outcome_of(bench.run, [("insert", 2, 2), ("turn", 1, 3)]), ("Rejected", 1))
            self.assert_unchanged(bench, before)
        for made_of in (Bench, LoggedBench):
            self.assertEqual(self.begun(made_of).run([("exchange", 1), ("exchange", 1)]), 5)

    def test_too_many_edits_inside(self):
        for made_of in CLASSES:
            for stand in range(41, 61):
                bench = made_of(R)
                for _ in range(stand):
                    bench.turn(0, 0)
                before = told_by(bench)
                for batch in ([("exchange", 0), ("exchange", 0)] * 10, [STAY] * (60 - stand) + [("exchange", 99)]):
                    self.assertEqual(outcome_of(bench.run, batch), ("Rejected", 60 - stand))
                self.assertEqual(told_by(bench), before)
                self.assertEqual(bench.run([STAY] * (60 - stand)), 60)

    def test_steps_before_the_rejected_edit(self):
        for made_of in CLASSES:
            bench = self.begun(made_of)
            before = told_by(bench)
            seen = []
            batch = [STAY, ("exchange", 0), ("remove", 9), STAY]
            outcome = outcome_of(bench.run, batch, on_step=lambda held: seen.append((held.version, held.row())))
            self.assertEqual(outcome, ("Rejected", 2))
            self.assertEqual(seen, [(4, FOLDABLE), (5, (0, 1, 3, 2))])
            self.assert_unchanged(bench, before)

    def test_each_edit_can_be_undone_by_itself(self):
        draws = Draws(82)
        for made_of in CLASSES:
            bench, model = made_of(R), Model(made_of, R)
            edits = good_edits(made_of, R, 20, draws)
            self.assert_outcome(outcome_of(bench.run, edits), model.run(edits))
            for version in range(19, -1, -1):
                self.assertEqual(bench.undo(), version)
                model.undo()
                self.assertEqual(told_by(bench), model.told())
                self.assertEqual(bench.edits(), tuple(edits[:version]))

    def test_drawn_runs(self):
        draws = Draws(83)
        for made_of in CLASSES:
            outcomes = []
            for _ in range(60):
                bench, model = self.begun(made_of), Model(made_of, (0, 1, 2, 3))
                model.run([("exchange", 0), ("exchange", 2), STAY])
                batch = [drawn_edit(draws, 4, past=-1) for _ in range(draws.below(7))]
                expected = model.run(batch)
                self.assert_outcome(outcome_of(bench.run, batch), expected)
                self.assertEqual(told_by(bench), model.told())
                outcomes.append(expected[0])
            self.assertEqual(set(outcomes), {"returns", "Rejected"})


class OnStepTest(RunTestCase):
    def test_it_sees_the_edits_done_so_far(self):
        draws = Draws(84)
        for made_of in CLASSES:
            edits = good_edits(made_of, R, 20, draws)
            bench, model = made_of(R), Model(made_of, R)
            seen = []

            def on_step(held):
                self.assertIs(held, bench)
                model.add(edits[len(seen)])
                # All queries work; the log is as before the run.
                self.assertEqual(told_by(held), model.told())
                for version, row in enumerate(model.rows):
                    self.assertEqual([held.row(version=version), held.tree(version=version)], [row, tree_of(row)])
                self.assert_outcome(outcome_of(held.row, version=held.version + 1), ("NoVersion", held.version + 1))
                self.assertTrue(held == made_of(model.rows[-1]))
                self.assertTrue(held.is_edit(STAY))
                self.assertEqual(held.read("1 0").row(), (1, 0))
                seen.append(held.version)

            self.assertEqual(bench.run(edits, on_step=on_step), 20)
            self.assertEqual(seen, list(range(1, 21)))
            model.finish("run", ("returns", 20))
            self.assertEqual(told_by(bench), model.told())

    def test_its_result_is_not_used(self):
        for result in (None, True, False, 0, "x", [], Busy()):
            bench = Bench(R)
            self.assertEqual(bench.run([("exchange", 0), ("exchange", 0)], on_step=lambda held: result), 2)
            self.assertEqual(bench.row(), R)

    def calls_that_edit(self, bench):
        """Return calls that would change the bench, or raise other errors, if it were not busy."""
        calls = [(bench.undo,), (bench.run, []), (bench.run, None), (bench.run, [STAY]), (bench.run, [0]),
                 (bench.run, [STAY] * 21), (bench.exchange, 0), (bench.exchange, None), (bench.insert, 0, 0),
                 (bench.insert, 99, 99), (bench.insert, 0, True), (bench.remove, 0), (bench.remove, []),
                 (bench.turn, 0, 0), (bench.turn, 1, 0), (bench.turn, "", 0)]
        self.assertLessEqual(set(WORDS), {call.__name__ for call, *arguments in calls})
        return calls

    def test_editing_undo_and_run_raise_busy(self):
        for made_of in CLASSES:
            bench = self.begun(made_of)
            expected = self.begun(made_of)
            seen = []

            def on_step(held):
                before = told_by(held)
                for call, *arguments in self.calls_that_edit(held):
                    self.assertEqual(outcome_of(call, *arguments), ("Busy",))
                    self.assertEqual(told_by(held), before)
                self.assertEqual(outcome_of(held.run, [STAY], on_step=self.fail), ("Busy",))
                seen.append(held.version)

            self.assertEqual(bench.run([("exchange", 0), ("exchange", 2)], on_step=on_step), 5)
            self.assertEqual(seen, [4, 5])
            expected.run([("exchange", 0), ("exchange", 2)])
            self.assertEqual(told_by(bench), told_by(expected))
            self.assert_unchanged(bench, told_by(bench))

    def test_busy_comes_before_all_other_errors(self):
        # The row has one place, and sixty edits stand: every edit would raise another error.
        for made_of in CLASSES:
            bench = made_of((0,))
            for _ in range(59):
                bench.turn(0, 0)
            seen = []

            def on_step(held):
                for call, *arguments in self.calls_that_edit(held):
                    seen.append(outcome_of(call, *arguments))

            self.assertEqual(bench.run([STAY], on_step=on_step), 60)
            self.assertEqual(set(seen), {("Busy",)})

    def test_a_second_bench_is_free(self):
        for made_of, other in product(CLASSES, repeat=2):
            bench, second = made_of(R), other(FOLDABLE)

            def on_step(held):
                second.exchange(0)
                second.run([STAY], on_step=lambda inner: self.assertEqual(outcome_of(held.undo), ("Busy",)))
                self.assertEqual(second.undo(), second.version)

            self.assertEqual(bench.run([STAY, STAY], on_step=on_step), 2)
            self.assertEqual([second.version, second.row()], [2, FOLDABLE])
            self.assertEqual([bench.undo(), second.undo()], [1, 1])

    def test_a_passed_list_that_is_changed(self):
        changes = [lambda edits: edits.clear(), lambda edits: edits.append(("exchange", 99)),
                   lambda edits: edits.reverse(), lambda edits: edits.insert(0, None),
                   lambda edits: edits.__setitem__(slice(None), [("remove", 0)] * 3)]
        for made_of, change in product(CLASSES, changes):
            edits = [("exchange", 0), ("insert", 0, 0), ("turn", 0, 1)]
            kept = tuple(edits)
            bench, expected = made_of(FOLDABLE), made_of(FOLDABLE)
            expected.run(kept)
            self.assertEqual(bench.run(edits, on_step=lambda held: change(edits)), 3)
            self.assertEqual(told_by(bench), told_by(expected))
            edits.clear()
            self.assertEqual(bench.edits(), kept)

    def test_an_exception_propagates_and_all_edits_are_undone(self):
        exceptions = [Refused("why"), Stop(), KeyError("x"), ValueError(1), LookupError(), RuntimeError(), NoPlace(3),
                      Rejected(7), BadRow(None), HasFour(()), NothingToUndo(), StopIteration(), KeyboardInterrupt()]
        for made_of, exception, at in product(CLASSES, exceptions, (0, 1, 3)):
            bench = self.begun(made_of)
            before = told_by(bench)
            versions = []

            def on_step(held):
                versions.append(held.version)
                if len(versions) == at + 1:
                    raise exception

            with self.assertRaises(type(exception)) as caught:
                bench.run([("exchange", 0), ("remove", 3), ("turn", 0, 2), ("insert", 0, 0)], on_step=on_step)
            self.assertIs(caught.exception, exception)
            self.assertEqual(versions, [4 + step for step in range(at + 1)])
            self.assert_unchanged(bench, before)

    def test_a_busy_that_is_not_handled(self):
        for made_of in CLASSES:
            for name, arguments in [("undo", ()), ("exchange", (0,)), ("insert", (0, 0)), ("remove", (0,)),
                                    ("turn", (0, 0)), ("run", ([],))]:
                bench = self.begun(made_of)
                before = told_by(bench)
                with self.assertRaises(Busy):
                    bench.run([("exchange", 0), STAY], on_step=lambda held: getattr(held, name)(*arguments))
                self.assert_unchanged(bench, before)

    def test_a_rejected_run_of_a_second_bench(self):
        bench, second = Bench(R), Bench(R)

        def on_step(held):
            second.run([STAY, ("exchange", 9)])

        with self.assertRaises(Rejected) as caught:
            bench.run([STAY, STAY, STAY], on_step=on_step)
        self.assertEqual(caught.exception.index, 1)
        self.assertEqual([told_by(bench), told_by(second)], [told_by(Bench(R))] * 2)

    def test_free_again_after_each_end(self):
        for made_of in CLASSES:
            bench = self.begun(made_of)

            def raise_refused(held):
                raise Refused()

            self.assertRaises(Refused, bench.run, [STAY], on_step=raise_refused)
            self.assertEqual(do(bench, STAY), ("returns", 4))
            self.assertEqual(outcome_of(bench.run, [STAY, ("remove", 9)], on_step=len), ("Rejected", 1))
            self.assertEqual(do(bench, STAY), ("returns", 5))
            self.assertEqual(outcome_of(bench.run, [STAY], on_step=len), ("returns", 6))
            self.assertEqual(do(bench, STAY), ("returns", 7))

    def test_the_log_within_on_step(self):
        for made_of in (LoggedBench, LoggedFoldableBench):
            bench = self.begun(made_of)
            logs = []
            bench.run([STAY, STAY], on_step=lambda held: logs.append(held.log))
            self.assertEqual(logs, [(("run", 3),)] * 2)
            self.assertEqual(bench.log, (("run", 3), ("run", 5)))


if __name__ == "__main__":
    unittest.main()

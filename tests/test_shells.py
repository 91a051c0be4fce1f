import unittest
from itertools import product

from bench_model import CLASSES, do, good_edits, outcome_of, told_by
from rowfolds.benches import Bench, FoldableBench, LoggedBench, LoggedFoldableBench
from rowfolds.counting import foldable_index
from rowfolds.shells import Shell
from samples import (
    LARGE_ROWS, LARGE_TREES, OTHER_VALUES, ROWS_TO_SIX, TWELVE, Draws, direct_blocks, direct_fours, direct_length,
    direct_row, direct_tree_text,
)

R = (2, 0, 1, 3)
S = (1, 3, 0, 2)
ASCENDING = tuple(range(12))
UNKNOWN = "unknown command"
MANY_NUMBERS = {"exchange": 1, "insert": 2, "remove": 1, "turn": 2, "undo": 0}
QUERIES = ("row", "tree", "rest", "blocks", "rising", "falling", "index")
COMMANDS = {**MANY_NUMBERS, **dict.fromkeys(QUERIES, 0)}
GOOD_LINES = ["exchange 0", "insert 0 0", "remove 1", "turn 0 2", "undo", *QUERIES]
WRONG_NUMBERS = ["", "00", "01", "007", "-1", "+1", "-0", "1_0", "1000", "0000", "9999", "1.0", "0x1", "x", "one", "1,",
                 "None", "True", "1\n", "\n1", "\t1", "(1)", "1e1", "²", "٣"]


def direct_answers(bench):
    """Return what the queries have to answer."""
    row = bench.row()
    return {
        "row": " ".join(map(str, row)),
        "tree": direct_tree_text(bench.tree()),
        "rest": " ".join(map(str, bench.rest)),
        "blocks": str(len(direct_blocks(row))),
        "rising": str(direct_length(row)),
        "falling": str(direct_length(row[::-1])),
        "index": "error NotFoldable" if direct_fours(row) else str(foldable_index(row)),
    }


def answer_for(outcome):
    """Return what the shell has to answer if the call has this outcome."""
    return f"ok {outcome[1]}" if outcome[0] == "returns" else f"error {outcome[0]}"


class ShellTestCase(unittest.TestCase):
    def check_unknown(self, shell, bench, lines):
        before = told_by(bench)
        for line in lines:
            answer = shell.execute(line)
            self.assertEqual((answer, type(answer)), (UNKNOWN, str), str(line)[:80])
            self.assertEqual(told_by(bench), before)


class EditingCommandsTest(ShellTestCase):
    def check(self, made_of, row, edit):
        """Compare the answer with the same call on a second bench."""
        bench, second = made_of(row), made_of(row)
        outcome = do(second, edit)
        answer = Shell(bench).execute(" ".join(map(str, edit)))
        self.assertEqual((answer, type(answer)), (answer_for(outcome), str), (row, edit))
        self.assertEqual(told_by(bench), told_by(second))
        return answer.split(" ")[-1]

    def test_valid_and_invalid_numbers(self):
        seen = set()
        for made_of in CLASSES:
            for row in [(0,), (1, 0), R, (1, 0, 3, 2), (0, 2, 1, 4, 3), ASCENDING]:
                numbers = [*range(len(row) + 2), 12, 13, 99, 100, 999]
                for word, number in product(("exchange", "remove"), numbers):
                    seen.add(self.check(made_of, row, (word, number)))
                for word, first, last in product(("insert", "turn"), numbers, numbers):
                    seen.add(self.check(made_of, row, (word, first, last)))
        self.assertEqual(seen, {"1", "NoPlace", "NoNumber", "TooLong", "LastOne", "BadOrder", "HasFour"})

    def test_many_commands_on_one_bench(self):
        draws = Draws(91)
        for made_of in CLASSES:
            bench, second = made_of(R), made_of(R)
            shell = Shell(bench)
            for edit in good_edits(made_of, R, 60, draws):
                self.assertEqual(shell.execute(" ".join(map(str, edit))), answer_for(do(second, edit)))
                self.assertEqual(bench.edits(), second.edits())
            for line in ("exchange 0", "exchange 999", "insert 0 0", "insert 99 99", "remove 0", "turn 1 0"):
                self.assertEqual(shell.execute(line), "error TooManyEdits")
            self.assertEqual(told_by(bench), told_by(second))
            for version in range(59, -1, -1):
                self.assertEqual(shell.execute("undo"), f"ok {version}")
                second.undo()
                self.assertEqual(bench.row(), second.row())
            for _ in range(3):
                self.assertEqual(shell.execute("undo"), "error NothingToUndo")
            self.assertEqual(told_by(bench), told_by(second))
            self.assertEqual(bench.row(), R)

    def test_the_log_has_the_methods(self):
        for made_of in (LoggedBench, LoggedFoldableBench):
            bench = made_of((0, 1, 2))
            shell = Shell(bench)
            for line in ("exchange 0", "insert 0 0", "remove 0", "turn 0 2", "undo", "undo 0", "exchange 9", *QUERIES):
                shell.execute(line)
            self.assertEqual(bench.log, (("exchange", 1), ("insert", 2), ("remove", 3), ("turn", 4), ("undo", 3)))

    def test_a_four(self):
        for made_of in (FoldableBench, LoggedFoldableBench):
            bench = made_of((1, 0, 3, 2))
            self.assertEqual(Shell(bench).execute("exchange 1"), "error HasFour")
            self.assertEqual(told_by(bench), told_by(made_of((1, 0, 3, 2))))


class QueriesTest(ShellTestCase):
    def test_all_rows(self):
        for row in ROWS_TO_SIX + LARGE_ROWS + [direct_row(tree) for tree in LARGE_TREES]:
            bench = Bench(row)
            shell = Shell(bench)
            for word, expected in direct_answers(bench).items():
                answer = shell.execute(word)
                self.assertEqual((answer, type(answer)), (expected, str), (word, row))
            self.assertEqual((bench.version, bench.row()), (0, row))

    def test_answers(self):
        shell = Shell(Bench(S))
        self.assertEqual([shell.execute(word) for word in QUERIES],
                         ["1 3 0 2", "(1,3,0,2 . . . .)", "1 3 0 2", "5", "2", "2", "error NotFoldable"])
        shell = Shell(Bench((0,)))
        self.assertEqual([shell.execute(word) for word in QUERIES], ["0", ".", "0", "1", "1", "1", "0"])
        shell = Shell(LoggedFoldableBench(ASCENDING[::-1]))
        self.assertEqual([shell.execute(word) for word in QUERIES[2:-1]], ["0", "78", "1", "12"])
        shell = Shell(Bench(TWELVE))
        self.assertEqual(shell.execute("row"), "6 0 7 1 8 2 9 3 10 4 11 5")
        self.assertEqual(shell.execute("tree"), "(6,0,7,1,8,2,9,3,10,4,11,5 . . . . . . . . . . . .)")

    def test_after_edits(self):
        draws = Draws(92)
        for made_of in CLASSES:
            bench = made_of(R)
            shell = Shell(bench)
            for edit in good_edits(made_of, R, 30, draws):
                shell.execute(" ".join(map(str, edit)))
                self.assertEqual({word: shell.execute(word) for word in QUERIES}, direct_answers(bench))
                self.assertEqual({word: shell.execute(word) for word in QUERIES}, direct_answers(bench))


class UnknownTest(ShellTestCase):
    def setUp(self):
        self.bench = LoggedBench(R)
        self.bench.turn(0, 0)
        self.shell = Shell(self.bench)

    def check(self, lines):
        self.check_unknown(self.shell, self.bench, lines)

    def test_numbers_of_another_form(self):
        for word in WRONG_NUMBERS:
            self.check([f"exchange {word}", f"remove {word}", f"insert {word} 0", f"insert 0 {word}", f"turn {word} 0",
                        f"turn 0 {word}", f"insert {word} {word}", f"undo {word}", f"row {word}", f"index {word}"])

    def test_three_and_four_digits(self):
        for number in (0, 9, 10, 99, 100, 123, 999):
            answer = self.shell.execute(f"remove {number}")
            self.assertEqual(answer, "ok 2" if number == 0 else "error NoPlace")
            if number == 0:
                self.bench.undo()
            self.check([f"remove 0{number}", f"remove +{number}", f"remove -{number}", f"remove {number}_0",
                        f"remove {number + 1000}", f"remove 0000{number}"])

    def test_words_left_out_and_doubled(self):
        for word, many in COMMANDS.items():
            for numbers in range(5):
                line = " ".join([word] + ["0"] * numbers)
                if numbers != many:
                    self.check([line])
                self.check([f"{word} {line}", f"{line} {word}", f"0 {line}", " ".join(["0"] * numbers)])

    def test_spaces(self):
        for line in GOOD_LINES:
            self.check([" " + line, line + " ", "  " + line, line + "  ", line + "\n", "\n" + line, line + "\t"])
            if " " in line:
                self.check([line.replace(" ", "  "), line.replace(" ", "  ", 1), line.replace(" ", "\n"),
                            line.replace(" ", "\t"), line.replace(" ", ","), line.replace(" ", "")])

    def test_a_character_more_or_less(self):
        for line in GOOD_LINES:
            for at in range(len(line)):
                before, behind = line[:at], line[at + 1:]
                signs = ("", 2 * line[at], "x", "x" + line[at])
                changed = [before + sign + behind for sign in signs]
                # A digit that is doubled may make a number, and an x that is replaced by an x changes nothing.
                self.check([text for text in changed if text not in ("remove 11", "turn 0 22", line)])

    def test_other_words(self):
        self.check(["", " ", "run", "run 0", "edits", "walk", "size", "version", "log", "len", "str", "read 0",
                    "read 0 1", "is_edit", "help", "quit", "Row", "ROW", "Undo", "unknown command", "ok 1", "rows",
                    "ro", "busy", "exchange", "tree of", "states", "done", "finish undo", "__init__", "exchange(0)",
                    "row;tree", "row tree", "row\nrow", "undo undo", "x" * 2000, " " * 2000,
                    "exchange " + "0" * 1991, "insert" + " 0" * 500])

    def test_values_that_are_no_texts(self):
        self.assertEqual([value for value in OTHER_VALUES if isinstance(value, str) and value in COMMANDS], ["row"])
        self.check([value for value in OTHER_VALUES if value != "row"])
        self.check([b"row", ["row"], ("row",), {"row": 0}, ("exchange", 0), ["undo"], self.bench, Bench(R)])


class TwoShellsTest(ShellTestCase):
    def test_two_shells_on_one_bench(self):
        for made_of in CLASSES:
            bench = made_of((0, 1, 2))
            first, second = Shell(bench), Shell(bench)
            self.assertEqual([first.execute("exchange 0"), second.execute("exchange 1")], ["ok 1", "ok 2"])
            self.assertEqual([first.execute("row"), second.execute("row")], ["1 2 0"] * 2)
            self.assertEqual(bench.row(), (1, 2, 0))
            self.assertEqual([second.execute("undo"), bench.undo()], ["ok 1", 0])
            self.assertEqual(first.execute("undo"), "error NothingToUndo")
            bench.insert(0, 0)
            self.assertEqual([first.execute("row"), second.execute("row")], ["0 1 2 3"] * 2)

    def test_two_benches(self):
        benches = [Bench(R), Bench(R)]
        first, second = map(Shell, benches)
        first.execute("remove 0")
        self.assertEqual([first.execute("row"), second.execute("row")], ["0 1 2", "2 0 1 3"])

    def test_while_a_run_is_in_on_step(self):
        for made_of in CLASSES:
            bench = made_of((0, 1, 2, 3))
            shell, second = Shell(bench), Shell(made_of((0, 1)))
            seen = []

            def on_step(held):
                before = told_by(held)
                for line in ("exchange 0", "exchange 999", "insert 0 0", "insert 99 99", "remove 0", "remove 99",
                             "turn 0 0", "turn 1 0", "undo"):
                    self.assertEqual(shell.execute(line), "error Busy")
                    self.assertEqual(Shell(held).execute(line), "error Busy")
                self.check_unknown(shell, held, ["exchange", "exchange 01", "undo 0", "run", "", None])
                self.assertEqual({word: shell.execute(word) for word in QUERIES}, direct_answers(held))
                self.assertEqual(told_by(held), before)
                self.assertEqual([second.execute("exchange 0"), second.execute("undo")], ["ok 1", "ok 0"])
                seen.append(shell.execute("row"))

            self.assertEqual(bench.run([("exchange", 0), ("exchange", 2)], on_step=on_step), 2)
            self.assertEqual(seen, ["1 0 2 3", "1 0 3 2"])
            self.assertEqual(shell.execute("undo"), "ok 1")

    def test_a_run_that_a_shell_looks_at_and_that_is_undone(self):
        bench = Bench(R)
        shell = Shell(bench)
        seen = []
        outcome = outcome_of(bench.run, [("exchange", 0), ("exchange", 9)],
                             on_step=lambda held: seen.append(shell.execute("row")))
        self.assertEqual(outcome, ("Rejected", 1))
        self.assertEqual(seen + [shell.execute("row")], ["0 2 1 3", "2 0 1 3"])


if __name__ == "__main__":
    unittest.main()

"""The examples of the document, section by section, as they stand there."""

import doctest
import unittest
from pathlib import Path

from rowfolds import errors

README = Path(__file__).resolve().parent.parent / "README.md"

ROWS = """
>>> from rowfolds.rows import is_row
>>> [is_row((2, 0, 1)), is_row((1, 2)), is_row(())]
[True, False, False]

>>> from rowfolds.rows import row_error
>>> [row_error((0, 0, 5)), row_error((3, 0, 1)), row_error([0])]
[(1, 'twice'), (0, 'number'), (None, 'row')]

>>> from rowfolds.rows import pattern_of
>>> pattern_of((50, -3, 7))
(2, 0, 1)

>>> from rowfolds.rows import flipped_row, inverse_row, reversed_row
>>> [reversed_row((2, 0, 1)), flipped_row((2, 0, 1)), inverse_row((2, 0, 1))]
[(1, 0, 2), (0, 2, 1), (1, 2, 0)]

>>> from rowfolds.rows import chosen
>>> R = (2, 0, 1, 3)
>>> chosen(R, (0, 1, 3))
(1, 0, 2)

>>> from rowfolds.rows import joined
>>> [joined((0,), (1, 0)), joined((0,), (1, 0), falling=True), joined((1, 0))]
[(0, 2, 1), (2, 1, 0), (1, 0)]

>>> from rowfolds.rows import joined
>>> joined()
raises NoRows()
"""

BLOCKS = """
>>> from rowfolds.blocks import is_block
>>> R = (2, 0, 1, 3)
>>> [is_block(R, (0, 2)), is_block(R, (2, 3)), is_block(R, (2, 2))]
[True, False, True]

>>> from rowfolds.blocks import each_block
>>> R = (2, 0, 1, 3)
>>> list(each_block(R))
[(0, 0), (0, 2), (0, 3), (1, 1), (1, 2), (2, 2), (3, 3)]

>>> from rowfolds.blocks import blocks_of
>>> R = (2, 0, 1, 3)
>>> [blocks_of(R, least=2), blocks_of(R, least=3, most=3)]
[((0, 2), (0, 3), (1, 2)), ((0, 2),)]

>>> from rowfolds.blocks import overlapping_block
>>> [overlapping_block((0, 1, 2), (0, 1)), overlapping_block((2, 0, 1, 3), (0, 2))]
[(1, 2), None]

>>> from rowfolds.blocks import strong_blocks
>>> strong_blocks((0, 1, 2))
((0, 0), (0, 2), (1, 1), (2, 2))

>>> from rowfolds.blocks import is_plain
>>> S = (1, 3, 0, 2)
>>> [is_plain(S), is_plain((2, 0, 1, 3)), is_plain((1, 0))]
[True, False, False]
"""

TREES = """
>>> from rowfolds.trees import is_tree
>>> [is_tree('.'), is_tree(('+', ('.', '.'))), is_tree(('+', ('.', ('+', ('.', '.')))))]
[True, True, False]

>>> from rowfolds.trees import tree_of
>>> R = (2, 0, 1, 3)
>>> S = (1, 3, 0, 2)
>>> [tree_of(R), tree_of(S)]
[('+', (('-', ('.', ('+', ('.', '.')))), '.')), ((1, 3, 0, 2), ('.', '.', '.', '.'))]

>>> from rowfolds.trees import row_of
>>> row_of(('-', ('.', ('+', ('.', '.')))))
(2, 0, 1)

>>> from rowfolds.trees import count_blocks, size_of
>>> T = ('+', ('.', '.', '.'))
>>> [size_of(T), count_blocks(T)]
[3, 6]

>>> from rowfolds.trees import part_at
>>> T = ('+', (('-', ('.', '.')), '.'))
>>> [part_at(T, (0,)), part_at(T, (0, 1))]
[('-', ('.', '.')), '.']
"""

FOLDING = """
>>> from rowfolds.folds import folds_of
>>> [folds_of((2, 0, 1, 3)), folds_of((0, 1, 2)), folds_of((1, 3, 0, 2))]
[(1,), (0, 1), ()]

>>> from rowfolds.folds import folded
>>> R = (2, 0, 1, 3)
>>> [folded(R, 1), folded((1, 0), 0)]
[(1, 0, 2), (0,)]

>>> from rowfolds.folds import folded
>>> R = (2, 0, 1, 3)
>>> folded(R, 0)
raises NoFold(0)

>>> from rowfolds.folds import is_foldable, rest_of
>>> [rest_of((2, 0, 1, 3)), rest_of((1, 3, 0, 2, 4, 5)), is_foldable((1, 3, 0, 2))]
[(0,), (1, 3, 0, 2, 4), False]

>>> from rowfolds.folds import states_along
>>> R = (2, 0, 1, 3)
>>> list(states_along(R, (1, 0, 0)))
[(2, 0, 1, 3), (1, 0, 2), (0, 1), (0,)]

>>> from rowfolds.folds import is_history
>>> R = (2, 0, 1, 3)
>>> [is_history(R, (1, 0)), is_history(R, (0,)), is_history(R, ())]
[True, False, True]

>>> from rowfolds.folds import find_four
>>> S = (1, 3, 0, 2)
>>> [find_four(S), find_four((2, 0, 1, 3))]
[(0, 1, 2, 3), None]

>>> from rowfolds.folds import certificate
>>> R = (2, 0, 1, 3)
>>> certificate(R)
('history', (1, 0, 0))

>>> from rowfolds.folds import certificate_holds
>>> S = (1, 3, 0, 2)
>>> [certificate_holds(S, ('four', (0, 1, 2, 3))), certificate_holds(S, ('history', ()))]
[True, False]
"""

COUNTING = """
>>> from rowfolds.counting import count_foldable
>>> [count_foldable(1), count_foldable(3), count_foldable(4), count_foldable(12)]
[1, 6, 22, 5293446]

>>> from rowfolds.counting import foldable_at
>>> [foldable_at(3, 0), foldable_at(3, 2), foldable_at(3, 3)]
[(0, 1, 2), (1, 0, 2), (2, 0, 1)]

>>> from rowfolds.counting import foldable_at
>>> foldable_at(2, 2)
raises NoIndex(2)

>>> from rowfolds.counting import foldable_index
>>> [foldable_index((2, 0, 1)), foldable_index((1, 2, 0))]
[3, 5]

>>> from rowfolds.counting import each_foldable
>>> list(each_foldable(3))
[(0, 1, 2), (0, 2, 1), (1, 0, 2), (2, 0, 1), (2, 1, 0), (1, 2, 0)]
"""

PLANS = """
>>> from rowfolds.plans import is_plan
>>> [is_plan((((1, 0), (-1, -1)),)), is_plan((((0,), (0,)),))]
[True, False]

>>> from rowfolds.plans import plan_size
>>> P = (((1, 0), (-1, -1)), ((0, 1, 2), (0, -1, 0)))
>>> plan_size(P)
5

>>> from rowfolds.plans import number_at, place_of
>>> P = (((1, 0), (-1, -1)), ((0, 1, 2), (0, -1, 0)))
>>> [[number_at(P, k) for k in range(5)], place_of(P, 4)]
[[1, 0, 2, 4, 3], 3]

>>> from rowfolds.plans import expand_plan
>>> P = (((1, 0), (-1, -1)), ((0, 1, 2), (0, -1, 0)))
>>> expand_plan(P)
(1, 0, 2, 4, 3)

>>> from rowfolds.plans import plan_of
>>> plan_of(('+', (('-', ('.', '.')), '.')))
(((1, 0), (-1, -1)), ((0, 1), (0, -1)))

>>> from rowfolds.plans import inversions
>>> P = (((1, 0), (-1, -1)), ((0, 1, 2), (0, -1, 0)))
>>> inversions(P)
2

>>> from rowfolds.plans import plan_is_foldable
>>> P = (((1, 0), (-1, -1)), ((0, 1, 2), (0, -1, 0)))
>>> plan_is_foldable(P)
True
"""

SELECTIONS = """
>>> from rowfolds.selections import longest_rising
>>> len(longest_rising((2, 0, 1, 3)))
3

>>> from rowfolds.selections import smallest_cover
>>> smallest_cover((2, 1, 0))
((0, 1, 2),)

>>> from rowfolds.selections import shows_longest
>>> R = (2, 0, 1, 3)
>>> [shows_longest(R, ((1, 2, 3), ((0, 1), (2,), (3,)))), shows_longest(R, ((1, 2), ((0, 1), (2,), (3,))))]
[True, False]

>>> from rowfolds.selections import falling_length, rising_length
>>> P = (((1, 0), (-1, -1)), ((0, 1, 2), (0, -1, 0)))
>>> [rising_length(P), falling_length(P)]
[3, 2]

>>> from rowfolds.selections import count_rising
>>> P = (((1, 0), (-1, -1)), ((0, 1, 2), (0, -1, 0)))
>>> [count_rising(P, k) for k in range(5)]
[1, 5, 8, 4, 0]
"""

BENCHES = """
>>> from rowfolds.benches import Bench
>>> str(Bench((2, 0, 1)))
'3 places, 0 edits'

>>> from rowfolds.benches import Bench
>>> [Bench.read('1 0').row(), Bench.is_edit(('exchange', 5)), Bench.is_edit(('insert', 0))]
[(1, 0), True, False]

>>> from rowfolds.benches import Bench
>>> bench = Bench((2, 0, 1))
>>> [bench.exchange(0), bench.insert(3, 0), bench.remove(1), bench.turn(0, 2), bench.row()]
[1, 2, 3, 4, (0, 2, 1)]

>>> from rowfolds.benches import Bench
>>> bench = Bench((0, 1))
>>> [bench.exchange(0), bench.undo(), bench.row()]
[1, 0, (0, 1)]

>>> from rowfolds.benches import Bench
>>> bench = Bench((0, 1))
>>> bench.run([('exchange', 0), ('remove', 7)])
raises Rejected(1)

>>> from rowfolds.benches import Bench
>>> bench = Bench((2, 0, 1, 3))
>>> [bench.version, bench.size, bench.rest, bench.remove(2), bench.size]
[0, 4, (0,), 1, 3]

>>> from rowfolds.benches import Bench
>>> bench = Bench((0, 1))
>>> [bench.exchange(0), bench.tree(), bench.row(version=0), list(bench.walk())]
[1, ('-', ('.', '.')), (0, 1), [(0, (0, 1)), (1, (1, 0))]]

>>> from rowfolds.benches import Bench
>>> A = (0,)
>>> [len(Bench(A)), Bench(A) == Bench(A), Bench(A) == A]
[0, True, False]

>>> from rowfolds.benches import FoldableBench
>>> bench = FoldableBench((1, 0, 3, 2))
>>> bench.exchange(1)
raises HasFour((0, 1, 2, 3))

>>> from rowfolds.benches import LoggedBench
>>> bench = LoggedBench((0, 1))
>>> [bench.run([('exchange', 0)]), bench.undo(), bench.log]
[1, 0, (('run', 1), ('undo', 0))]

>>> from rowfolds.benches import FoldableBench, LoggedBench, LoggedFoldableBench
>>> bench = LoggedFoldableBench.read('1 0')
>>> [isinstance(bench, FoldableBench), isinstance(bench, LoggedBench), bench.log]
[True, True, ()]
"""

TEXTS = """
>>> from rowfolds.texts import row_text, tree_text
>>> [row_text((2, 0, 1)), tree_text(('-', ('.', ('+', ('.', '.'))))), tree_text(((1, 3, 0, 2), ('.', '.', '.', '.')))]
['2 0 1', '(- . (+ . .))', '(1,3,0,2 . . . .)']

>>> from rowfolds.texts import parse_row
>>> parse_row('1 x')
raises BadText(1)

>>> from rowfolds.texts import parse_tree
>>> parse_tree('(+ . (- . .))')
('+', ('.', ('-', ('.', '.'))))

>>> from rowfolds.texts import parse_tree
>>> parse_tree('(+ .)')
raises BadText(None)

>>> from rowfolds.benches import Bench
>>> from rowfolds.shells import Shell
>>> shell = Shell(Bench((2, 0, 1, 3)))
>>> [shell.execute('tree'), shell.execute('remove 0'), shell.execute('index'), shell.execute('turn 2 0'), shell.execute('turn')]
['(+ (- . (+ . .)) .)', 'ok 1', '0', 'error BadOrder', 'unknown command']
"""


def outcome_of(lines):
    """Return what the last line shows, in the words of the document."""
    names = {}
    for line in lines[:-1]:
        exec(line, names)
    try:
        return repr(eval(lines[-1], names))
    except (errors.RowError, LookupError) as error:
        fields = ", ".join(repr(value) for value in vars(error).values())
        return f"raises {type(error).__name__}({fields})"


class ExamplesTest(unittest.TestCase):
    def check(self, section, many):
        examples = [example.splitlines() for example in section.strip().split("\n\n")]
        self.assertEqual(len(examples), many)
        for *session, expected in examples:
            with self.subTest(session[-1]):
                self.assertEqual(outcome_of([line.removeprefix(">>> ") for line in session]), expected)

    def test_rows(self):
        self.check(ROWS, 7)

    def test_blocks(self):
        self.check(BLOCKS, 6)

    def test_trees(self):
        self.check(TREES, 5)

    def test_folding(self):
        self.check(FOLDING, 9)

    def test_counting(self):
        self.check(COUNTING, 5)

    def test_plans(self):
        self.check(PLANS, 7)

    def test_selections(self):
        self.check(SELECTIONS, 5)

    def test_benches(self):
        self.check(BENCHES, 11)

    def test_texts_and_a_shell(self):
        self.check(TEXTS, 5)

    def test_the_readme(self):
        results = doctest.testfile(str(README), module_relative=False)
        self.assertEqual(results.failed, 0)
        self.assertGreater(results.attempted, 30)


if __name__ == "__main__":
    unittest.main()

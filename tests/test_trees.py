import unittest

from rowfolds.blocks import strong_blocks
from rowfolds.errors import NoPath
from rowfolds.rows import is_row
from rowfolds.trees import count_blocks, is_tree, part_at, row_of, size_of, tree_of
from samples import (
    LARGE_ROWS, LARGE_TREES, OTHER_VALUES, ROWS, ROWS_TO_SIX, TREES, TREES_TO_FOUR, TREES_TO_SIX, TWELVE, comb,
    direct_blocks, direct_is_tree, direct_plain, direct_row, direct_strong_blocks, leaves_of, nested, part_on, paths_of,
    variants,
)

DOTS = (".",) * 20
PLAIN = (1, 3, 0, 2)
REPLACEMENTS = [
    None, True, False, 0, 1, 2, 3, -1, "", ".", "+", "-", "..", "*", "+-", (), [], {}, [".", "."], (".",), (".", "."),
    ("+", (".", ".")), ("-", (".", ".")), ["+", (".", ".")], ("+", [".", "."]), PLAIN, (2, 0, 3, 1), (0, 1), (1, 0),
    (0, 2, 1), (1, 3, 0, 2, 4), (2, 4, 0, 3, 1), [1, 3, 0, 2], (True, 3, False, 2), (PLAIN, DOTS[:4]),
]


class IsTreeTest(unittest.TestCase):
    def check(self, value, expected):
        self.assertIs(is_tree(value), expected, str(value)[:200])

    def test_trees_of_one_to_twelve_entries(self):
        self.assertEqual({len(leaves_of(tree)) for tree in TREES}, set(range(1, 13)))
        for tree in TREES:
            self.check(tree, True)
        for row in ROWS:
            self.check(tree_of(row), True)

    def test_as_many_levels_as_possible(self):
        for kind in "+-":
            for behind in (True, False):
                for size in range(1, 13):
                    self.check(comb(size, kind, behind), True)
                for size in range(13, 20):
                    self.check(comb(size, kind, behind), False)

    def test_flat_trees(self):
        for many in range(16):
            for kind in "+-":
                self.check((kind, (".",) * many), 2 <= many <= 12)

    def test_thirteen_and_fourteen_entries(self):
        for tree in LARGE_TREES:
            size = len(leaves_of(tree))
            for more in (12 - size, 13 - size, 14 - size):
                if more > 0 and tree[0] != "+":
                    self.check(("+", (tree,) + DOTS[:more]), size + more <= 12)
                    self.check(("+", DOTS[:more] + (tree,)), size + more <= 12)
        for many in (2, 3, 4):
            for at in range(12):
                bent = ("-", (".",) * many)
                self.check((TWELVE, DOTS[:at] + (bent,) + DOTS[at + 1:12]), False)
                self.check(("+", DOTS[:at] + (bent,) + DOTS[at + 1:11]), many == 2 and at < 11)
        self.check((PLAIN, (("+", DOTS[:9]), ".", ".", ".")), True)
        self.check((PLAIN, (("+", DOTS[:10]), ".", ".", ".")), False)
        self.check((PLAIN, (".", ".", ".", ("+", DOTS[:10]))), False)

    def test_a_part_changed_removed_or_repeated(self):
        for tree in TREES_TO_FOUR + TREES_TO_SIX[-12:] + LARGE_TREES[::9]:
            for value in variants(tree, REPLACEMENTS):
                self.check(value, direct_is_tree(value))

    def test_a_part_of_the_same_kind(self):
        for kind, other in ("+-", "-+"):
            same = (kind, (".", "."))
            unlike = (other, (".", "."))
            for parts in [(same, "."), (".", same), (same, same), (".", ".", same), (unlike, same)]:
                self.check((kind, parts), False)
                self.check((other, parts), unlike not in parts)
                self.check(("-" if kind == "+" else "+", ((kind, parts), ".")), False)
            self.check((kind, ((other, (same, ".")), unlike)), True)
            self.check((kind, ((other, (same, unlike)), ".")), False)
        inner = (PLAIN, (".",) * 4)
        self.check((PLAIN, (inner, inner, ".", ".")), True)
        self.check(("+", (inner, ".", (PLAIN, (".", "." , ("+", (".", ".")), ".")))), True)

    def test_kinds_that_are_no_plain_row_for_the_parts(self):
        for row in ROWS_TO_SIX + LARGE_ROWS:
            self.check((row, (".",) * len(row)), direct_plain(row))
            for many in (0, 1, len(row) - 1, len(row) + 1, len(row) + 2):
                self.check((row, (".",) * many), False)

    def test_kinds_with_lists_and_bools(self):
        dots = (".",) * 4
        for kind in [[1, 3, 0, 2], (True, 3, 0, 2), (1, 3, False, 2), (True, 3, False, 2), "1302", "1,3,0,2",
                     (PLAIN,), ("1", "3", "0", "2"), (1, 3, 0, None), "+ ", "++", "*", ".", None, True, 0, (), {}]:
            self.check((kind, dots), False)
        self.check((PLAIN, list(dots)), False)
        self.check([PLAIN, dots], False)

    def test_other_values(self):
        for value in OTHER_VALUES + ["..", ". ", " .", "+", "-", ".+", b".", (".",), (".", "."), ("+",), ("+", "."),
                                     ("+", ".."), ("+", (".", "."), "."), ("+", ((".", "."),)), {"+": (".", ".")},
                                     ("+", {"a": "."}), ("+", (".",)), ("+", ()), ("+", None), ["."], (".", ("+",))]:
            self.check(value, False)

    def test_deep_and_large_values(self):
        self.check(nested(".", 40), False)
        self.check(("+", (".",) * 997), False)
        self.check(("+", (("-", (".",) * 400), ("-", (".",) * 400))), False)
        shared = "."
        for level in range(40):
            shared = ("+-"[level % 2], (shared, shared))
        # Written out, this value would be far too long for a message.
        self.assertIs(is_tree(shared), False)


class TreeAndRowTest(unittest.TestCase):
    def test_there_are_as_many_trees_as_rows(self):
        self.assertEqual(len(TREES_TO_SIX), len(ROWS_TO_SIX))
        self.assertEqual(len({direct_row(tree) for tree in TREES_TO_SIX}), len(ROWS_TO_SIX))

    def test_row_of_trees(self):
        for tree in TREES:
            self.assertEqual(row_of(tree), direct_row(tree))
            self.assertTrue(is_row(row_of(tree)))

    def test_tree_of_rows_of_trees(self):
        for tree in TREES:
            self.assertEqual(tree_of(direct_row(tree)), tree)

    def test_each_gives_back_what_the_other_one_took(self):
        for row in ROWS_TO_SIX + LARGE_ROWS:
            tree = tree_of(row)
            self.assertTrue(direct_is_tree(tree), tree)
            self.assertEqual(row_of(tree), row)
        for tree in TREES:
            self.assertEqual(tree_of(row_of(tree)), tree)

    def test_results_are_tuples_texts_and_integers(self):
        for row in ROWS:
            self.check_kinds(tree_of(row))
            self.assertEqual({type(number) for number in row_of(tree_of(row))}, {int})

    def check_kinds(self, value):
        self.assertIn(type(value), (tuple, str, int))
        if isinstance(value, tuple):
            for item in value:
                self.check_kinds(item)

    def test_parts_at_all_levels_are_the_strong_blocks(self):
        for row in ROWS_TO_SIX + LARGE_ROWS:
            stretches = sorted(self.stretches(tree_of(row), 0))
            self.assertEqual(stretches, direct_strong_blocks(row))
            self.assertEqual(tuple(stretches), strong_blocks(row))
        for tree in LARGE_TREES:
            self.assertEqual(tuple(sorted(self.stretches(tree, 0))), strong_blocks(row_of(tree)))

    def stretches(self, tree, first):
        found = [(first, first + len(leaves_of(tree)) - 1)]
        for part in () if tree == "." else tree[1]:
            found += self.stretches(part, first)
            first += len(leaves_of(part))
        return found

    def test_rows_with_somewhat_more_places(self):
        for row in [tuple(range(13)), tuple(range(14))[::-1], TWELVE + (12,), TWELVE + (13, 12)]:
            self.assertEqual(row_of(tree_of(row)), row)
            self.assertEqual(size_of(tree_of(row)), len(row))
            self.assertEqual(count_blocks(tree_of(row)), len(direct_blocks(row)))


class SizeTest(unittest.TestCase):
    def test_size_of(self):
        for tree in TREES:
            self.assertEqual(size_of(tree), len(leaves_of(tree)))
        for row in ROWS:
            self.assertEqual(size_of(tree_of(row)), len(row))

    def test_count_blocks(self):
        for tree in TREES:
            self.assertEqual(count_blocks(tree), len(direct_blocks(direct_row(tree))))
        for row in ROWS:
            self.assertEqual(count_blocks(tree_of(row)), len(direct_blocks(row)))

    def test_numbers(self):
        self.assertEqual([size_of("."), count_blocks(".")], [1, 1])
        self.assertEqual([size_of(("+", (".",) * 12)), count_blocks(("+", (".",) * 12))], [12, 78])
        self.assertEqual([size_of(("-", (".",) * 12)), count_blocks(("-", (".",) * 12))], [12, 78])
        self.assertEqual([size_of((TWELVE, (".",) * 12)), count_blocks((TWELVE, (".",) * 12))], [12, 13])
        self.assertEqual([size_of(comb(12)), count_blocks(comb(12))], [12, 23])


class PartAtTest(unittest.TestCase):
    def test_all_paths(self):
        for tree in TREES:
            for path in paths_of(tree):
                self.assertEqual(part_at(tree, path), part_on(tree, path))

    def check_no_path(self, tree, path):
        with self.assertRaises(NoPath, msg=(tree, str(path)[:80])) as caught:
            part_at(tree, path)
        self.assertIs(caught.exception.value, path)

    def test_paths_that_lead_nowhere(self):
        for tree in TREES_TO_FOUR + LARGE_TREES:
            for path in paths_of(tree):
                part = part_on(tree, path)
                many = 0 if part == "." else len(part[1])
                for index in (-1, -2, -many - 1, many, many + 1, 12, 99, 10 ** 59, -(10 ** 59)):
                    self.check_no_path(tree, path + (index,))
                    self.check_no_path(tree, path + (index, 0))
                if part == ".":
                    self.check_no_path(tree, path + (0,))
                    self.check_no_path(tree, path + (0, 0))

    def test_indexes_of_another_kind(self):
        for tree in [".", ("+", (".", ".")), ("+", (".", ("-", (".", ".")), ".")), LARGE_TREES[5], comb(12)]:
            for path in paths_of(tree):
                for other in [None, True, False, "0", "1", "", (), (0,), [0], [], {}, {"0": 0}, "."]:
                    self.check_no_path(tree, path + (other,))
                    self.check_no_path(tree, (other,) + path)
                    for at in range(len(path)):
                        self.check_no_path(tree, path[:at] + (other,) + path[at + 1:])

    def test_values_that_are_no_tuples(self):
        for tree in [".", ("+", (".", ".")), comb(12)]:
            for path in paths_of(tree):
                self.check_no_path(tree, list(path))
            for value in [None, True, False, 0, 1, -1, "", "0", ".", "01", [], [0], {}, {"0": 0}, 10 ** 59]:
                self.check_no_path(tree, value)

    def test_other_values(self):
        tree = ("+", (".", ("-", (".", ".")), "."))
        self.assertEqual([value for value in OTHER_VALUES if value == ()], [()])
        for value in OTHER_VALUES:
            if value != ():
                self.check_no_path(tree, value)

    def test_paths_that_are_too_long(self):
        self.assertEqual(part_at(comb(12), (1,) * 11), ".")
        self.check_no_path(comb(12), (1,) * 12)
        self.check_no_path(comb(12), (1,) * 13)
        self.check_no_path(comb(12), (0,) * 1000)
        self.check_no_path(".", (0,))


if __name__ == "__main__":
    unittest.main()

import unittest
from itertools import combinations, permutations

from rowfolds.errors import NoNumber, NoPlace, TooLong
from rowfolds.folds import is_foldable
from rowfolds.plans import (
    expand_plan, inversions, is_plan, number_at, place_of, plan_is_foldable, plan_of, plan_size,
)
from rowfolds.trees import row_of, tree_of
from samples import (
    HUGE_PLAN, LARGE_PLANS, LARGE_TREES, OTHER_VALUES, ROWS, SMALL_PLANS, TOWERS, TREES, TREES_TO_SIX, TWELVE, Draws,
    direct_folded, direct_folds, direct_fours, direct_nested_row, direct_row, part_on, paths_of, put_behind, variants,
)

P = (((1, 0), (-1, -1)), ((0, 1, 2), (0, -1, 0)))
S = (1, 3, 0, 2)
ONE = ((0,), (-1,))
NO_INDEXES = [None, True, False, "", "0", "1", (), (0,), [0], [], {}, {"0": 0}]


def direct_is_plan(value):
    """Follow the definition."""
    if not isinstance(value, tuple) or len(value) not in range(1, 21):
        return False
    for at, entry in enumerate(value):
        if not isinstance(entry, tuple) or len(entry) != 2 or not all(isinstance(part, tuple) for part in entry):
            return False
        row, children = entry
        if any(type(number) is not int for number in row + children):
            return False
        if len(row) not in range(1, 13) or sorted(row) != list(range(len(row))) or len(children) != len(row):
            return False
        if any(child not in range(-1, at) for child in children):
            return False
    return True


def places_to_try(draws, size):
    near = [place for place in (0, 1, 2, size // 2, size - 2, size - 1) if 0 <= place < size]
    return near + [draws.below(size) for _ in range(15)]


def tower_number(row, levels, place):
    """Read the place as digits, one for each level, and replace each digit by its number in the row."""
    number = 0
    for level in reversed(range(levels)):
        digit = place // len(row) ** level % len(row)
        number += row[digit] * len(row) ** level
    return number


class IsPlanTest(unittest.TestCase):
    def check(self, value, expected):
        self.assertIs(is_plan(value), expected, str(value)[:200])

    def test_plans(self):
        for plan in SMALL_PLANS + LARGE_PLANS + TOWERS:
            self.check(plan, True)
        for row in ROWS:
            self.check(((row, (-1,) * len(row)),), True)

    def test_one_part_changed(self):
        others = [None, True, False, 0, 1, 2, 3, -1, -2, "", "0", "-1", (), [], {}, (0,), [0], (-1,), [-1], (1, 0),
                  (0, 1), (0, 0), (-1, -1), (True, False), ONE, ((0, 1), (-1, -1)), ((0, 1), (0, 0)), [ONE], 10 ** 59]
        for plan in [(ONE,), P, *[plan for plan in SMALL_PLANS if 1 < len(plan) < 5][::9]]:
            for value in variants(plan, others):
                self.check(value, direct_is_plan(value))

    def test_children_that_are_not_earlier(self):
        for at in range(20):
            plan = tuple(((0,), (before - 1,)) for before in range(at))
            for child in range(-3, 22):
                self.check(plan + (((0,), (child,)),), -1 <= child < at)
                self.check(plan + (((1, 0), (-1, child)),), -1 <= child < at)
        self.check((((0,), (0,)),), False)
        self.check((((0,), (1,)), ONE), False)

    def test_too_few_or_too_many_children(self):
        for row in ROWS[:40] + ROWS[-5:]:
            for many in range(15):
                self.check(((row, (-1,) * many),), many == len(row))
                self.check((ONE, (row, (0,) * many)), many == len(row))

    def test_too_few_or_too_many_entries(self):
        for many in range(24):
            self.check((ONE,) * many, 1 <= many <= 20)
            self.check(tuple(((0,), (at - 1,)) for at in range(many)), 1 <= many <= 20)
        self.check((ONE,) * 300, False)

    def test_rows_that_are_no_rows(self):
        for row in [(), (1,), (0, 0), (1, 2), (0, 2), tuple(range(13)), (True, False), (False,), [0], "0", None, 0]:
            many = len(row) if isinstance(row, (tuple, list, str)) else 1
            self.check(((row, (-1,) * many),), False)
            self.check((ONE, (row, (0,) * many)), False)
        self.check(((tuple(range(12)), (-1,) * 12),), True)

    def test_bools_and_lists(self):
        for entry in [((0,), (False,)), ((0,), (True,)), ((False,), (-1,)), [(0,), (-1,)], ([0], (-1,)), ((0,), [-1]),
                      ((0,), ("-1",)), ((0,), (None,)), ((0,), -1), ((0,),), ((0,), (-1,), ()), (0, -1), "00", {}]:
            self.check((entry,), False)
            self.check((ONE, ONE, entry), False)
        self.check([ONE], False)
        self.check(ONE, False)
        self.check((ONE, ONE, ((1, 0), (True, False))), False)

    def test_other_values(self):
        for value in OTHER_VALUES:
            self.check(value, False)
            self.check((value,), False)
            self.check((ONE, value), False)
            self.check((((0,), value),), value == (-1,))
            self.check(((value, (-1,)),), False)

    def test_entries_that_are_not_used(self):
        self.check((((0, 1), (-1, -1)), ONE), True)
        self.check((((0, 1), (-1, -1)), ((0,), (-2,)), ONE), False)


class SmallPlansTest(unittest.TestCase):
    """The written-out row tells what the functions have to return."""

    def test_size(self):
        for plan in SMALL_PLANS:
            self.assertEqual(plan_size(plan), len(direct_nested_row(plan)))

    def test_numbers_and_places(self):
        for plan in SMALL_PLANS:
            row = direct_nested_row(plan)
            for place, number in enumerate(row):
                self.assertEqual(number_at(plan, place), number)
                self.assertEqual(place_of(plan, number), place)

    def test_inversions(self):
        for plan in SMALL_PLANS:
            row = direct_nested_row(plan)
            self.assertEqual(inversions(plan), sum(first > second for first, second in combinations(row, 2)))

    def test_foldable(self):
        results = []
        for plan in SMALL_PLANS:
            row = direct_nested_row(plan)
            result = self.folds_to_one(row) if len(row) > 20 else direct_fours(row) == []
            self.assertIs(plan_is_foldable(plan), result, plan)
            results.append(result)
        self.assertGreater(min(results.count(True), results.count(False)), 25)

    def folds_to_one(self, row):
        while direct_folds(row):
            row = direct_folded(row, direct_folds(row)[0])
        return row == (0,)

    def test_expand(self):
        for plan in SMALL_PLANS:
            row = direct_nested_row(plan)
            if len(row) <= 12:
                self.assertEqual(expand_plan(plan), row)
                self.assertIs(type(expand_plan(plan)), tuple)
            else:
                self.check_too_long(plan)

    def check_too_long(self, plan):
        with self.assertRaises(TooLong) as caught:
            expand_plan(plan)
        self.assertEqual(caught.exception.limit, 12)

    def test_expand_to_twelve_places_and_more(self):
        pair = ((1, 0), (-1, -1))
        six = tuple(range(6))
        for row in (six, six[::-1], (2, 0, 1, 5, 4, 3)):
            plan = (pair, (row, (0,) * 6))
            self.assertEqual(expand_plan(plan), tuple(2 * number + more for number in row for more in (1, 0)))
        self.check_too_long((pair, ((0, 1, 2, 3, 4, 5, 6), (0,) * 6 + (-1,))))
        self.check_too_long((pair, ((0, 1, 2, 3, 4, 5, 6), (0,) * 7)))
        self.check_too_long((pair, (TWELVE, (-1,) * 11 + (0,))))
        self.assertEqual(expand_plan(((TWELVE, (-1,) * 12),)), TWELVE)
        self.assertEqual(expand_plan(((TWELVE, (-1,) * 12), ((0,), (0,)))), TWELVE)
        for plan in TOWERS:
            self.check_too_long(plan)

    def test_rows_without_children(self):
        for row in ROWS:
            plan = ((row, (-1,) * len(row)),)
            self.assertEqual(expand_plan(plan), row)
            self.assertEqual(plan_size(plan), len(row))
            self.assertIs(plan_is_foldable(plan), is_foldable(row))

    def test_entries_that_are_not_used_play_no_part(self):
        unused = (*HUGE_PLAN[:15], (S, (14, 0, -1, 3)))
        for plan in [*SMALL_PLANS[:4], SMALL_PLANS[50], P]:
            if len(plan) > 4:
                continue
            larger = put_behind(unused, plan)
            self.assertTrue(is_plan(larger))
            self.assertEqual(plan_size(larger), plan_size(plan))
            self.assertEqual(expand_plan(larger), direct_nested_row(plan))
            self.assertEqual(inversions(larger), inversions(plan))
            self.assertIs(plan_is_foldable(larger), plan_is_foldable(plan))
        self.assertIs(plan_is_foldable(((S, (-1,) * 4), ONE)), True)
        self.assertIs(plan_is_foldable(((S, (-1,) * 4), ((0,), (0,)))), False)


class WrongPlacesTest(unittest.TestCase):
    def check_no_place(self, plan, value):
        with self.assertRaises(NoPlace, msg=str(value)[:80]) as caught:
            number_at(plan, value)
        self.assertIs(caught.exception.value, value)
        with self.assertRaises(NoNumber, msg=str(value)[:80]) as caught:
            place_of(plan, value)
        self.assertIs(caught.exception.value, value)

    def test_outside(self):
        for plan in SMALL_PLANS:
            size = len(direct_nested_row(plan))
            for value in (-1, -2, -size, -size - 1, size, size + 1, 10 ** 59, -(10 ** 59)):
                self.check_no_place(plan, value)
        for plan in LARGE_PLANS + TOWERS:
            size = plan_size(plan)
            for value in (-1, -size, size, size + 1, 10 ** 59):
                self.check_no_place(plan, value)

    def test_other_values(self):
        for plan in [(ONE,), P, HUGE_PLAN]:
            for value in OTHER_VALUES + NO_INDEXES:
                if type(value) is not int:
                    self.check_no_place(plan, value)


class LargePlansTest(unittest.TestCase):
    """Nested rows that cannot be written out."""

    def test_towers(self):
        draws = Draws(22)
        for plan in TOWERS:
            row = plan[0][0]
            size = len(row) ** 20
            self.assertEqual(plan_size(plan), size)
            for place in places_to_try(draws, size):
                number = tower_number(row, 20, place)
                self.assertEqual(number_at(plan, place), number)
                self.assertEqual(place_of(plan, number), place)
            self.assertIs(plan_is_foldable(plan), direct_fours(row) == [])

    def test_inversions_of_towers(self):
        for plan in TOWERS:
            row = plan[0][0]
            own = sum(first > second for first, second in combinations(row, 2))
            # At each level, each inversion of the row is one of all pairs of entries of two nested rows.
            expected = sum(own * len(row) ** (19 - level) * len(row) ** (2 * level) for level in range(20))
            self.assertEqual(inversions(plan), expected)
        size = 12 ** 20
        self.assertEqual(inversions(TOWERS[-1]), size * (size - 1) // 2)
        self.assertEqual(inversions(TOWERS[-2]), 0)

    def test_one_after_the_other(self):
        # The row (0, 1) of two nested rows, or (1, 0) of them, has the numbers of both.
        for plan in TOWERS:
            below = plan[:19]
            size = plan_size(below)
            for row in [(0, 1), (1, 0)]:
                both = below + ((row, (18, 18)),)
                self.assertEqual(plan_size(both), 2 * size)
                self.assertEqual(inversions(both), 2 * inversions(below) + (row[0] * size * size))
                for place in (0, 1, size - 1, 12345):
                    self.assertEqual(number_at(both, place), number_at(below, place) + row[0] * size)
                    self.assertEqual(number_at(both, size + place), number_at(below, place) + row[1] * size)
                    self.assertEqual(place_of(both, number_at(both, size + place)), size + place)

    def test_drawn_plans(self):
        draws = Draws(23)
        self.assertGreater(max(plan_size(plan) for plan in LARGE_PLANS), 10 ** 12)
        for plan in LARGE_PLANS:
            size = plan_size(plan)
            for place in places_to_try(draws, size):
                self.assertEqual(place_of(plan, number_at(plan, place)), place)
                self.assertEqual(number_at(plan, place_of(plan, place)), place)

    def test_drawn_plans_level_by_level(self):
        # One more entry on top tells what becomes of the numbers, places and inversions below it.
        for plan in LARGE_PLANS:
            below = plan[:19]
            size = plan_size(below)
            whole = below + (((1, 2, 0), (18, -1, 18)),)
            self.assertEqual(plan_size(whole), 2 * size + 1)
            self.assertEqual(number_at(whole, size), 2 * size)
            self.assertEqual(place_of(whole, 2 * size), size)
            for place in (0, size // 2, size - 1):
                self.assertEqual(number_at(whole, place), size + number_at(below, place))
                self.assertEqual(number_at(whole, size + 1 + place), number_at(below, place))
                self.assertEqual(place_of(whole, place), size + 1 + place_of(below, place))
            self.assertEqual(inversions(whole), 2 * inversions(below) + size * size + size)
            self.assertIs(plan_is_foldable(whole), plan_is_foldable(below))

    def test_foldable_depends_on_the_used_entries(self):
        tower = TOWERS[-1][:10]
        self.assertIs(plan_is_foldable(tower), True)
        for at in range(10):
            rows = [entry[0] for entry in tower]
            rows[at] = TWELVE
            plan = tuple((row, entry[1]) for row, entry in zip(rows, tower))
            self.assertIs(plan_is_foldable(plan), False)
            skipped = tuple((row, tuple(child - (child == at) for child in children)) for row, children in plan)
            self.assertTrue(is_plan(skipped))
            self.assertIs(plan_is_foldable(skipped), at != 9)


class PlanOfTest(unittest.TestCase):
    def direct_plan(self, tree):
        """List the parts with parts, each behind those inside it, and number them."""
        if tree == ".":
            return (ONE,)
        paths = [path for path in paths_of(tree) if part_on(tree, path) != "."]
        # A path comes behind all paths that it begins; no index is as great as the one put behind it.
        paths.sort(key=lambda path: path + (99,))
        entries = []
        for path in paths:
            kind, parts = part_on(tree, path)
            row = sorted(range(len(parts)), reverse=kind == "-") if kind in ("+", "-") else kind
            inside = [path + (at,) for at in range(len(parts))]
            entries.append((tuple(row), tuple(paths.index(inner) if inner in paths else -1 for inner in inside)))
        return tuple(entries)

    def test_all_trees(self):
        for tree in TREES:
            self.assertEqual(plan_of(tree), self.direct_plan(tree))

    def test_nested_row(self):
        for tree in TREES:
            plan = plan_of(tree)
            self.assertTrue(is_plan(plan))
            self.assertEqual(direct_nested_row(plan), direct_row(tree))
            self.assertEqual(expand_plan(plan), row_of(tree))

    def test_functions_on_rows_and_on_plans(self):
        for row in [row for size in range(1, 7) for row in permutations(range(size))]:
            plan = plan_of(tree_of(row))
            self.assertEqual(expand_plan(plan), row)
            self.assertIs(plan_is_foldable(plan), is_foldable(row))
        for tree in LARGE_TREES:
            row = direct_row(tree)
            self.assertEqual(inversions(plan_of(tree)), sum(a > b for a, b in combinations(row, 2)))

    def test_equal_parts_have_their_own_entries(self):
        pair = ("-", (".", "."))
        self.assertEqual(plan_of(("+", (pair, pair))),
                         (((1, 0), (-1, -1)), ((1, 0), (-1, -1)), ((0, 1), (0, 1))))
        self.assertEqual(plan_of("."), (ONE,))
        inner = ("+", (pair, ".", pair))
        self.assertEqual(plan_of((S, (pair, inner, ".", pair))), (
            ((1, 0), (-1, -1)), ((1, 0), (-1, -1)), ((1, 0), (-1, -1)), ((0, 1, 2), (1, -1, 2)),
            ((1, 0), (-1, -1)), (S, (0, 3, -1, 4)),
        ))

    def test_number_of_entries(self):
        for tree in TREES_TO_SIX:
            inner = sum(part_on(tree, path) != "." for path in paths_of(tree))
            self.assertEqual(len(plan_of(tree)), max(inner, 1))


if __name__ == "__main__":
    unittest.main()

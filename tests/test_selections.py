import unittest
from itertools import combinations, permutations, product
from math import comb, prod

from rowfolds.plans import inversions, is_plan, plan_of, plan_size
from rowfolds.selections import (
    count_rising, falling_length, longest_rising, rising_length, shows_longest, smallest_cover,
)
from rowfolds.trees import tree_of
from samples import (
    HUGE_PLAN, LARGE_PLANS, LARGE_ROWS, LARGE_TREES, OTHER_VALUES, ROWS_TO_SIX, SMALL_PLANS, SMALL_ROWS, TOWERS, Draws,
    direct_length, direct_nested_row, direct_row, put_behind, splits, variants,
)

R = (2, 0, 1, 3)
P = (((1, 0), (-1, -1)), ((0, 1, 2), (0, -1, 0)))
ALL_ROWS = ROWS_TO_SIX + LARGE_ROWS + [direct_row(tree) for tree in LARGE_TREES]
SOME_ROWS = [(0,), (0, 1), (1, 0), (2, 0, 1), (0, 2, 1), R, (1, 3, 0, 2), (3, 2, 1, 0), (4, 1, 3, 0, 2)]
SOME_LARGE_ROWS = LARGE_ROWS[::12] + [(6, 0, 7, 1, 8, 2, 9, 3, 10, 4, 11, 5)]
LENGTHS = range(5)


def rising_selections(row):
    """Return all rising selections of a row, the empty one first."""
    selections = [()]
    for place, number in enumerate(row):
        selections += [(*places, place) for places in selections if not places or row[places[-1]] < number]
    return selections


def falling_covers(row):
    """Return all falling covers of a row with few places."""
    covers = [[]]
    for place, number in enumerate(row):
        longer = [cover + [(place,)] for cover in covers]
        for cover in covers:
            for at, places in enumerate(cover):
                if row[places[-1]] > number:
                    longer.append(cover[:at] + [(*places, place)] + cover[at + 1:])
        covers = longer
    return [tuple(sorted(cover)) for cover in covers]


def direct_counts(row):
    """Return the numbers of rising selections with 0 to 4 places of a row that is written out."""
    ending = []
    for place, number in enumerate(row):
        smaller = [counts for other, counts in zip(row, ending) if other < number]
        ending.append([0, 1] + [sum(counts[k - 1] for counts in smaller) for k in range(2, 5)])
    return [1] + [sum(counts[k] for counts in ending) for k in range(1, 5)]


def is_selection(row, value, falls):
    if not isinstance(value, tuple) or any(type(place) is not int for place in value):
        return False
    if any(place not in range(len(row)) for place in value) or sorted(set(value)) != list(value):
        return False
    numbers = [row[place] for place in value]
    return numbers == sorted(numbers, reverse=falls)


def direct_shows(row, value):
    """Follow the definition."""
    if not isinstance(value, tuple) or len(value) != 2 or not isinstance(value[1], tuple):
        return False
    selection, cover = value
    if not is_selection(row, selection, False) or not all(is_selection(row, part, True) and part for part in cover):
        return False
    if sorted(cover) != list(cover) or sorted(sum(cover, ())) != list(range(len(row))):
        return False
    return len(selection) == len(cover)


def best_of(row):
    return longest_rising(row), smallest_cover(row)


class LongestTest(unittest.TestCase):
    def test_selection(self):
        for row in ALL_ROWS:
            selection = longest_rising(row)
            selections = rising_selections(row)
            self.assertIn(selection, selections)
            self.assertEqual(len(selection), max(map(len, selections)))
            self.assertEqual({type(place) for place in selection}, {int})

    def test_cover(self):
        for row in ALL_ROWS:
            cover = smallest_cover(row)
            self.assertIs(type(cover), tuple)
            self.assertTrue(all(is_selection(row, part, True) and part for part in cover), (row, cover))
            self.assertEqual(list(cover), sorted(cover))
            self.assertEqual(sorted(place for part in cover for place in part), list(range(len(row))))
            self.assertEqual(len(cover), max(map(len, rising_selections(row))))

    def test_smallest_among_all_covers(self):
        for row in SMALL_ROWS:
            covers = falling_covers(row)
            self.assertIn(smallest_cover(row), covers)
            self.assertEqual(len(smallest_cover(row)), min(map(len, covers)))

    def test_ascending_and_descending_rows(self):
        for size in range(1, 13):
            ascending = tuple(range(size))
            self.assertEqual(longest_rising(ascending), ascending)
            self.assertEqual(smallest_cover(ascending), tuple((place,) for place in range(size)))
            self.assertEqual(len(longest_rising(ascending[::-1])), 1)
            self.assertEqual(smallest_cover(ascending[::-1]), (ascending,))


class ShowsLongestTest(unittest.TestCase):
    def check(self, row, value, expected):
        self.assertIs(shows_longest(row, value), expected, (row, str(value)[:200]))

    def compare(self, row, values):
        """Compare the results with the definition, and return how many values are right."""
        right = 0
        for value in values:
            expected = direct_shows(row, value)
            self.check(row, value, expected)
            right += expected
        return right

    def test_results_of_the_package(self):
        for row in ALL_ROWS:
            self.check(row, best_of(row), True)

    def test_all_selections_with_all_covers(self):
        for row in [row for row in SMALL_ROWS if len(row) < 5]:
            values = list(product(rising_selections(row), falling_covers(row)))
            longest = max(map(len, rising_selections(row)))
            expected = [len(selection) == len(cover) == longest for selection, cover in values]
            self.assertEqual([shows_longest(row, value) for value in values], expected)

    def test_all_tuples_of_places_as_selections(self):
        for row in [(0,), (1, 0), (2, 0, 1), R, (1, 3, 0, 2)]:
            cover = smallest_cover(row)
            tuples = [places for many in range(5) for places in product(range(-1, len(row) + 1), repeat=many)]
            self.assertGreater(self.compare(row, [(places, cover) for places in tuples]), 0)

    def test_all_orders_of_a_cover(self):
        for row in SMALL_ROWS:
            selection, cover = best_of(row)
            orders = [(selection, order) for order in permutations(cover)]
            self.assertEqual(self.compare(row, orders), 1)
            for at, part in enumerate(cover):
                others = [(*cover[:at], order, *cover[at + 1:]) for order in permutations(part)]
                self.assertEqual(self.compare(row, [(selection, other) for other in others]), 1)

    def test_of_other_rows(self):
        right = 0
        for row, other in product(SOME_ROWS + SOME_LARGE_ROWS, repeat=2):
            selection, cover = best_of(row)
            right += self.compare(row, [best_of(other), (best_of(other)[0], cover), (selection, best_of(other)[1])])
        self.assertGreater(right, len(SOME_ROWS))
        for row, other in product([row for row in SMALL_ROWS if len(row) == 4], repeat=2):
            self.compare(row, [best_of(other)])

    def test_one_part_replaced_left_out_repeated_or_as_a_list(self):
        others = [None, True, False, 0, 1, 2, 5, 11, 12, -1, "", "0", (), [], {}, (0,), [0], (1,), (True,), (False,),
                  (0, 1), (1, 0), ((0,),), ((0,), (1,)), ("0",), 10 ** 59]
        for row in SOME_ROWS + SOME_LARGE_ROWS[::4]:
            self.compare(row, variants(best_of(row), others))

    def test_two_parts_replaced(self):
        draws = Draws(31)
        others = [None, True, False, 0, 1, 2, 3, 11, -1, "0", (), [0], (0,), (1,), (False,), (0, 1), ((0,), (1,))]
        right = 0
        for row in SOME_ROWS + SOME_LARGE_ROWS:
            once = [value for value in variants(best_of(row), others) if isinstance(value, tuple)]
            for _ in range(40):
                twice = list(variants(draws.item(once), others))
                right += self.compare(row, [draws.item(twice) for _ in range(20)])
        self.assertGreater(right, 0)

    def test_two_parts_exchanged(self):
        for row in SOME_ROWS + SOME_LARGE_ROWS:
            selection, cover = best_of(row)
            self.check(row, (cover, selection), False)
            for here, there in combinations(range(len(selection)), 2):
                places, parts = list(selection), list(cover)
                places[here], places[there] = places[there], places[here]
                parts[here], parts[there] = parts[there], parts[here]
                self.check(row, (tuple(places), cover), False)
                self.check(row, (selection, tuple(parts)), False)
            # Two places of different selections of the cover exchanged.
            for here, there in combinations(range(len(row)), 2):
                swap = {here: there, there: here}
                moved = tuple(tuple(swap.get(place, place) for place in part) for part in cover)
                self.compare(row, [(selection, moved), (selection, tuple(sorted(tuple(sorted(p)) for p in moved)))])

    def test_bools(self):
        self.check((0,), ((0,), ((0,),)), True)
        for value in [((False,), ((0,),)), ((0,), ((False,),)), ((False,), ((False,),))]:
            self.check((0,), value, False)
        self.check((0, 1), ((0, 1), ((0,), (1,))), True)
        for value in [((0, True), ((0,), (1,))), ((False, 1), ((0,), (1,))), ((0, 1), ((0,), (True,))),
                      ((0, 1), ((False,), (1,)))]:
            self.check((0, 1), value, False)
        self.check((1, 0), ((0,), ((0, 1),)), True)
        self.check((1, 0), ((1,), ((0, 1),)), True)
        for value in [((True,), ((0, 1),)), ((1,), ((0, True),)), ((1,), ((False, True),))]:
            self.check((1, 0), value, False)

    def test_empty_selections(self):
        for row in SOME_ROWS:
            selection, cover = best_of(row)
            for value in [((), ()), ((), cover), (selection, ()), ((), ((),)), (selection, (*cover, ())),
                          (selection, ((), *cover)), (selection[:-1], cover[:-1]), ((), cover[:0])]:
                self.check(row, value, False)
            self.check(row, (selection, ((), *cover[1:])), False)

    def test_lists(self):
        for row in SOME_ROWS:
            selection, cover = best_of(row)
            for value in [[selection, cover], (list(selection), cover), (selection, list(cover)),
                          (selection, tuple(list(part) for part in cover)), (selection, cover, ()), (selection,),
                          {"selection": selection, "cover": cover}, selection + cover]:
                self.check(row, value, False)

    def test_other_values(self):
        for row in [(0,), (0, 1), (1, 0), R]:
            selection, cover = best_of(row)
            for value in OTHER_VALUES:
                self.check(row, value, False)
                self.compare(row, [(value, cover), (selection, value), (selection, (value,)), (value, value)])


class SmallPlansTest(unittest.TestCase):
    """The written-out row tells what the functions have to return."""

    def test_lengths(self):
        for plan in SMALL_PLANS:
            row = direct_nested_row(plan)
            self.assertEqual(rising_length(plan), direct_length(row))
            self.assertEqual(falling_length(plan), direct_length(row[::-1]))

    def test_counts(self):
        for plan in SMALL_PLANS:
            row = direct_nested_row(plan)
            self.assertEqual([count_rising(plan, length) for length in LENGTHS], direct_counts(row))

    def test_counts_of_all_choices_of_places(self):
        for plan in SMALL_PLANS:
            row = direct_nested_row(plan)
            if len(row) <= 16:
                for length in LENGTHS:
                    rising = sum(list(numbers) == sorted(numbers) for numbers in combinations(row, length))
                    self.assertEqual(count_rising(plan, length), rising)

    def test_rows_without_children(self):
        for row in ALL_ROWS:
            plan = ((row, (-1,) * len(row)),)
            self.assertEqual(rising_length(plan), len(longest_rising(row)))
            self.assertEqual(falling_length(plan), len(longest_rising(row[::-1])))
            sizes = [len(places) for places in rising_selections(row)]
            self.assertEqual([count_rising(plan, length) for length in LENGTHS], [sizes.count(k) for k in LENGTHS])

    def test_functions_on_rows_and_on_plans(self):
        for row in ROWS_TO_SIX + LARGE_ROWS:
            plan = plan_of(tree_of(row))
            self.assertEqual(rising_length(plan), len(longest_rising(row)))
            self.assertEqual(falling_length(plan), len(smallest_cover(row[::-1])))
            self.assertEqual([count_rising(plan, length) for length in LENGTHS], direct_counts(row))

    def test_entries_that_are_not_used_play_no_part(self):
        unused = (*HUGE_PLAN[:14], ((1, 3, 0, 2), (13, 0, -1, 3)), ((0,), (-1,)))
        for plan in [plan for plan in SMALL_PLANS if len(plan) <= 4]:
            larger = put_behind(unused, plan)
            self.assertTrue(is_plan(larger))
            self.assertEqual(rising_length(larger), rising_length(plan))
            self.assertEqual(falling_length(larger), falling_length(plan))
            for length in LENGTHS:
                self.assertEqual(count_rising(larger, length), count_rising(plan, length))

    def test_lengths_somewhat_outside(self):
        for plan in SMALL_PLANS[::10]:
            row = direct_nested_row(plan)
            self.assertEqual(count_rising(plan, -1), 0)
            if len(row) <= 16:
                for length in (5, 6):
                    rising = sum(list(numbers) == sorted(numbers) for numbers in combinations(row, length))
                    self.assertEqual(count_rising(plan, length), rising)


def reversed_plan(plan):
    """Return the plan with all rows reversed, whose nested row is the reversed one."""
    return tuple((row[::-1], children[::-1]) for row, children in plan)


def inverse_plan(plan):
    """Return the plan with places and numbers in each other's roles."""
    inverses = [tuple(sorted(range(len(row)), key=lambda place: row[place])) for row, children in plan]
    return tuple((inverse, tuple(children[place] for place in inverse))
                 for inverse, (row, children) in zip(inverses, plan))


def length_by_choices(plan):
    """Go through all rising selections of places of each row, and take the longest one of each child."""
    lengths = []
    for row, children in plan:
        inside = [1 if child == -1 else lengths[child] for child in children]
        lengths.append(max(sum(inside[place] for place in places) for places in rising_selections(row)))
    return lengths[-1]


def counts_by_choices(plan):
    """Go through all rising selections of places of each row, and share the length out among them."""
    counts = []
    for row, children in plan:
        inside = [[1, 1, 0, 0, 0] if child == -1 else counts[child] for child in children]
        found = [1, 0, 0, 0, 0]
        for places in rising_selections(row):
            if not 1 <= len(places) <= 4:
                continue
            for length in range(len(places), 5):
                for shares in splits(length, len(places)):
                    found[length] += prod(inside[place][share] for place, share in zip(places, shares))
        counts.append(found)
    return counts[-1]


class LargePlansTest(unittest.TestCase):
    """Nested rows that cannot be written out."""

    def test_all_choices_of_places(self):
        self.assertEqual({len(plan) for plan in LARGE_PLANS}, {20})
        self.assertEqual(max(len(row) for plan in LARGE_PLANS for row, children in plan), 12)
        for plan in LARGE_PLANS + TOWERS:
            self.assertEqual(rising_length(plan), length_by_choices(plan))
            self.assertEqual(falling_length(plan), length_by_choices(reversed_plan(plan)))
            self.assertEqual([count_rising(plan, length) for length in LENGTHS], counts_by_choices(plan))

    def test_reversed_and_inverse_rows(self):
        for plan in LARGE_PLANS + TOWERS:
            backwards = reversed_plan(plan)
            self.assertEqual(rising_length(backwards), falling_length(plan))
            self.assertEqual(falling_length(backwards), rising_length(plan))
            inverse = inverse_plan(plan)
            self.assertEqual(rising_length(inverse), rising_length(plan))
            self.assertEqual(falling_length(inverse), falling_length(plan))
            self.assertEqual(count_rising(inverse, 3), count_rising(plan, 3))
            self.assertEqual(count_rising(inverse, 4), count_rising(plan, 4))

    def test_few_places(self):
        for plan in LARGE_PLANS + TOWERS:
            size = plan_size(plan)
            self.assertEqual(count_rising(plan, 0), 1)
            self.assertEqual(count_rising(plan, 1), size)
            self.assertEqual(count_rising(plan, 2), size * (size - 1) // 2 - inversions(plan))
            self.assertEqual(count_rising(reversed_plan(plan), 2), inversions(plan))

    def test_towers(self):
        for plan in TOWERS:
            row = plan[0][0]
            self.assertEqual(rising_length(plan), direct_length(row) ** 20)
            self.assertEqual(falling_length(plan), direct_length(row[::-1]) ** 20)
        ascending, descending = TOWERS[-2:]
        self.assertEqual([count_rising(ascending, k) for k in LENGTHS], [comb(12 ** 20, k) for k in LENGTHS])
        self.assertEqual([count_rising(descending, k) for k in LENGTHS], [1, 12 ** 20, 0, 0, 0])

    def test_one_more_entry_on_top(self):
        for plan in LARGE_PLANS + TOWERS:
            below = plan[:19]
            counts = [count_rising(below, length) for length in LENGTHS]
            rising, falling = rising_length(below), falling_length(below)
            up, down, both = [below + (entry,) for entry in (
                ((0, 1), (18, 18)), ((1, 0), (18, 18)), ((1, 2, 0), (18, -1, 18)),
            )]
            self.assertEqual([rising_length(up), falling_length(up)], [2 * rising, falling])
            self.assertEqual([rising_length(down), falling_length(down)], [rising, 2 * falling])
            self.assertEqual([rising_length(both), falling_length(both)], [rising + 1, 2 * falling])
            for k in range(1, 5):
                shared = sum(counts[more] * counts[k - more] for more in range(k + 1))
                self.assertEqual(count_rising(up, k), shared)
                self.assertEqual(count_rising(down, k), 2 * counts[k])
                self.assertEqual(count_rising(both, k), 2 * counts[k] + counts[k - 1])


if __name__ == "__main__":
    unittest.main()

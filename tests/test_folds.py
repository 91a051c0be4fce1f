import unittest
from functools import cache
from inspect import isgenerator
from itertools import product

from rowfolds.errors import NoFold
from rowfolds.folds import (
    certificate, certificate_holds, find_four, folded, folds_of, is_foldable, is_history, rest_of, states_along,
)
from rowfolds.rows import is_row
from rowfolds.trees import row_of
from samples import (
    LARGE_ROWS, LARGE_TREES, OTHER_VALUES, ROWS, ROWS_TO_SIX, SMALL_ROWS, Draws, direct_folded, direct_folds,
    direct_fours, variants,
)

R = (2, 0, 1, 3)
S = (1, 3, 0, 2)
DRAWN_ROWS = LARGE_ROWS + [row_of(tree) for tree in LARGE_TREES]
ALL_ROWS = ROWS_TO_SIX + DRAWN_ROWS
NO_PLACES = [None, True, False, "", "0", "1", (), (0,), (1,), [0], [1], {}, {"0": 0}, 10 ** 59, -(10 ** 59)]
# One of each result of folding: foldable or not, with and without folds, of few and of many places.
SOME_ROWS = [(0,), (0, 1), (1, 0), (2, 0, 1), R, S, (1, 3, 0, 2, 4), (2, 0, 3, 1, 4), (1, 3, 0, 2, 4, 5)]
SOME_ROWS += DRAWN_ROWS[::20]


@cache
def all_rests(row):
    """Return the set of all rows without folds to which any order of folds leads."""
    folds = direct_folds(row)
    return frozenset().union(*[all_rests(direct_folded(row, place)) for place in folds]) if folds else {row}


def all_histories(row):
    """Return all histories of a row, complete or not."""
    longer = [(place, *rest) for place in direct_folds(row) for rest in all_histories(direct_folded(row, place))]
    return [()] + longer


def drawn_history(row, draws):
    """Return a complete history, with a drawn fold at each step, and the rest."""
    history = []
    while direct_folds(row):
        history.append(draws.item(direct_folds(row)))
        row = direct_folded(row, history[-1])
    return tuple(history), row


def direct_is_history(row, value):
    """Look a value up that is a tuple of integers and other items."""
    for place in value:
        if type(place) is not int or place not in direct_folds(row):
            return False
        row = direct_folded(row, place)
    return True


class FoldsTest(unittest.TestCase):
    def test_folds_of(self):
        for row in ALL_ROWS:
            self.assertEqual(folds_of(row), tuple(direct_folds(row)))

    def test_folded(self):
        for row in ALL_ROWS:
            for place in direct_folds(row):
                self.assertEqual(folded(row, place), direct_folded(row, place))
                self.assertTrue(is_row(folded(row, place)))

    def check_no_fold(self, row, value):
        with self.assertRaises(NoFold, msg=(row, str(value)[:80])) as caught:
            folded(row, value)
        self.assertIs(caught.exception.value, value)

    def test_places_that_are_no_folds(self):
        for row in ALL_ROWS:
            for place in range(-len(row) - 2, len(row) + 3):
                if place not in direct_folds(row):
                    self.check_no_fold(row, place)

    def test_other_values_are_no_folds(self):
        for row in SOME_ROWS:
            for value in NO_PLACES + OTHER_VALUES:
                if type(value) is not int:
                    self.check_no_fold(row, value)

    def test_the_last_place_is_no_fold(self):
        for size in range(1, 13):
            self.assertEqual(folds_of(tuple(range(size))), tuple(range(size - 1)))
            self.check_no_fold(tuple(range(size)), size - 1)
            self.check_no_fold(tuple(range(size)), -1)


class RestTest(unittest.TestCase):
    def test_every_order_of_folds(self):
        for row in ROWS_TO_SIX:
            self.assertEqual({rest_of(row)}, all_rests(row))

    def test_drawn_orders_of_folds(self):
        draws = Draws(5)
        for row in DRAWN_ROWS:
            for _ in range(5):
                self.assertEqual(rest_of(row), drawn_history(row, draws)[1])

    def test_the_rest_has_no_fold(self):
        for row in ALL_ROWS:
            rest = rest_of(row)
            self.assertTrue(is_row(rest))
            self.assertEqual(direct_folds(rest), [])

    def test_foldable_if_the_rest_is_one_entry(self):
        for row in ALL_ROWS:
            self.assertIs(is_foldable(row), rest_of(row) == (0,))

    def test_foldable_if_there_is_no_four(self):
        for row in ALL_ROWS:
            self.assertIs(is_foldable(row), direct_fours(row) == [], row)
        self.assertEqual([sum(is_foldable(row) for row in ROWS_TO_SIX if len(row) == size) for size in range(1, 7)],
                         [1, 2, 6, 22, 90, 394])

    def test_rows_that_fold_in_part(self):
        self.assertEqual(rest_of((1, 3, 0, 2, 4, 5)), (1, 3, 0, 2, 4))
        self.assertEqual(rest_of((6, 0, 7, 1, 8, 2, 9, 3, 10, 4, 11, 5)), (6, 0, 7, 1, 8, 2, 9, 3, 10, 4, 11, 5))
        self.assertEqual(rest_of((2, 3, 6, 7, 1, 0, 5, 4)), S)
        self.assertEqual(rest_of(tuple(range(12))), (0,))


class HistoryTest(unittest.TestCase):
    def states(self, row, history):
        """Return the rows along the history, by direct folding."""
        states = [row]
        for place in history:
            states.append(direct_folded(states[-1], place))
        return states

    def test_states_along_all_histories(self):
        for row in SMALL_ROWS:
            for history in all_histories(row):
                self.assertEqual(list(states_along(row, history)), self.states(row, history))

    def test_states_along_drawn_histories(self):
        draws = Draws(6)
        for row in DRAWN_ROWS:
            history, rest = drawn_history(row, draws)
            states = list(states_along(row, history))
            self.assertEqual(states, self.states(row, history))
            self.assertEqual([states[0], states[-1]], [row, rest])

    def test_left_early_and_begun_again(self):
        states = states_along(R, (1, 0, 0))
        self.assertTrue(isgenerator(states))
        self.assertEqual([next(states), next(states)], [R, (1, 0, 2)])
        states.close()
        for state in states_along(R, (1, 0, 0)):
            if state == (0, 1):
                break
        self.assertEqual(state, (0, 1))
        self.assertEqual(list(states_along(R, (1, 0, 0))), [R, (1, 0, 2), (0, 1), (0,)])
        self.assertEqual(list(states_along(R, ())), [R])
        self.assertEqual(list(states_along((0,), ())), [(0,)])

    def test_one_by_one(self):
        # A place that is no fold is only reached if the rows behind it are asked for.
        states = states_along(R, (1, 0, 7))
        self.assertEqual([next(states), next(states), next(states)], [R, (1, 0, 2), (0, 1)])

    def test_two_at_once(self):
        pairs = list(zip(states_along(R, (1, 0, 0)), states_along((0, 1, 2, 3), (2, 1, 0))))
        self.assertEqual([first for first, _ in pairs], self.states(R, (1, 0, 0)))
        self.assertEqual([second for _, second in pairs], self.states((0, 1, 2, 3), (2, 1, 0)))

    def test_every_tuple_of_small_numbers(self):
        for row in SMALL_ROWS[:33] + [(1, 3, 0, 2, 4), (0, 1, 2, 3, 4), (4, 3, 0, 1, 2)]:
            histories = set(all_histories(row))
            for many in range(5):
                for value in product(range(-1, 4), repeat=many):
                    self.assertIs(is_history(row, value), value in histories, (row, value))

    def test_complete_histories_and_their_beginnings(self):
        draws = Draws(7)
        for row in ALL_ROWS:
            history, rest = drawn_history(row, draws)
            for many in range(len(history) + 1):
                self.assertIs(is_history(row, history[:many]), True)
                self.assertIs(is_history(row, list(history[:many])), False)
            for more in range(-1, len(rest) + 1):
                self.assertIs(is_history(row, history + (more,)), False)

    def test_one_part_changed(self):
        draws = Draws(8)
        for row in ROWS_TO_SIX[::7] + DRAWN_ROWS[::3]:
            history = drawn_history(row, draws)[0]
            for value in variants(history, [*NO_PLACES, *range(-2, len(row) + 1)]):
                expected = isinstance(value, tuple) and direct_is_history(row, value)
                self.assertIs(is_history(row, value), expected, (row, value))

    def test_other_values(self):
        for row in [(0,), S, (2, 0, 3, 1)]:
            for value in OTHER_VALUES:
                self.assertIs(is_history(row, value), value == (), str(value)[:80])
        for row in SOME_ROWS:
            for value in NO_PLACES + OTHER_VALUES:
                if not isinstance(value, tuple):
                    self.assertIs(is_history(row, value), False, str(value)[:80])
        self.assertIs(is_history((0, 1), (False,)), False)
        self.assertIs(is_history(R, (True,)), False)
        self.assertIs(is_history(R, (1, False)), False)
        self.assertIs(is_history((0, 1), (0,) * 1000), False)


class CertificateTest(unittest.TestCase):
    def test_find_four(self):
        for row in ALL_ROWS:
            fours = direct_fours(row)
            if fours:
                self.assertIn(find_four(row), fours)
                self.assertIs(type(find_four(row)), tuple)
            else:
                self.assertIsNone(find_four(row))

    def test_a_four_at_any_places(self):
        ascending = tuple(range(12))
        for form in (S, (2, 0, 3, 1)):
            for first in range(9):
                row = ascending[:first] + tuple(first + number for number in form) + ascending[first + 4:]
                self.assertIn(find_four(row), direct_fours(row))
                self.assertEqual(certificate(row)[0], "four")

    def test_exactly_one_kind_of_certificate(self):
        for row in ALL_ROWS:
            word, shown = certificate(row)
            self.assertIs(type(shown), tuple)
            fours = direct_fours(row)
            if fours:
                self.assertEqual(word, "four")
                self.assertIn(shown, fours)
            else:
                self.assertEqual(word, "history")
                self.assertTrue(direct_is_history(row, shown))
                self.assertEqual(len(shown), len(row) - 1)
            self.assertIs(certificate_holds(row, certificate(row)), True)

    def test_all_histories_and_all_places(self):
        for row in SMALL_ROWS:
            for history in all_histories(row):
                complete = len(history) == len(row) - 1
                self.assertIs(certificate_holds(row, ("history", history)), complete)
            for places in product(range(-1, len(row) + 1), repeat=4):
                self.assertIs(certificate_holds(row, ("four", places)), places in direct_fours(row), (row, places))

    def test_all_fours_of_long_rows(self):
        for row in DRAWN_ROWS:
            for places in direct_fours(row):
                self.assertIs(certificate_holds(row, ("four", places)), True)

    def test_other_orders_of_folds(self):
        draws = Draws(9)
        for row in DRAWN_ROWS:
            history, rest = drawn_history(row, draws)
            self.assertIs(certificate_holds(row, ("history", history)), rest == (0,))

    def direct_holds(self, row, value):
        if not isinstance(value, tuple) or len(value) != 2 or not isinstance(value[1], tuple):
            return False
        word, shown = value
        if word == "history":
            return len(shown) == len(row) - 1 and direct_is_history(row, shown)
        return word == "four" and all(type(place) is int for place in shown) and shown in direct_fours(row)

    def test_values_with_one_part_changed(self):
        others = ["history", "four", "History", "fours", "histor", *NO_PLACES, *range(-2, 13)]
        for row in SOME_ROWS:
            for value in [certificate(row), ("history", certificate(row)[1]), ("four", certificate(row)[1])]:
                self.assertIs(certificate_holds(row, value), value == certificate(row))
                for other in variants(value, others):
                    self.assertIs(certificate_holds(row, other), self.direct_holds(row, other), (row, other))

    def test_the_other_word(self):
        for row in ALL_ROWS:
            word, shown = certificate(row)
            other = "four" if word == "history" else "history"
            self.assertIs(certificate_holds(row, (other, shown)), False)

    def test_words_and_lists(self):
        for value in [("four", [0, 1, 2, 3]), ["four", (0, 1, 2, 3)], ("four", (0, 1, 2, 3), ()), ("four",),
                      ("four", (0, 1, 2)), ("four", (0, 1, 2, 3, 4)), ("four", (False, True, 2, 3)),
                      ("four", (0, True, 2, 3)), ("four", (3, 2, 1, 0)), ("four", ()), ("four", None),
                      (4, (0, 1, 2, 3)), (("four",), (0, 1, 2, 3)), {"four": (0, 1, 2, 3)}, "four", (0, 1, 2, 3)]:
            self.assertIs(certificate_holds(S, value), False, value)
        self.assertIs(certificate_holds(S, ("four", (0, 1, 2, 3))), True)
        for value in [("history", [1, 0, 0]), ["history", (1, 0, 0)], ("history", (1, 0)), ("history", (1, 0, 0, 0)),
                      ("history", (True, 0, 0)), ("history", (1, False, 0)), ("history", (0, 0, 0)), ("history", ()),
                      ("history", None), ("history",), "history", (1, 0, 0), ((1, 0, 0), "history")]:
            self.assertIs(certificate_holds(R, value), False, value)
        self.assertIs(certificate_holds(R, ("history", (1, 0, 0))), True)
        self.assertIs(certificate_holds((0,), ("history", ())), True)
        self.assertIs(certificate_holds((0,), ("four", ())), False)

    def test_other_values(self):
        for row in SOME_ROWS:
            for value in OTHER_VALUES:
                self.assertIs(certificate_holds(row, value), False, str(value)[:80])
                self.assertIs(certificate_holds(row, ("four", value)), False, str(value)[:80])
                expected = value == () and row == (0,)
                self.assertIs(certificate_holds(row, ("history", value)), expected, str(value)[:80])


if __name__ == "__main__":
    unittest.main()

import importlib
import inspect
import unittest

SIGNATURES = {
    "rows": {
        "is_row": "(value)",
        "row_error": "(value)",
        "pattern_of": "(numbers)",
        "reversed_row": "(row)",
        "flipped_row": "(row)",
        "inverse_row": "(row)",
        "chosen": "(row, places)",
        "joined": "(*rows, falling=False)",
    },
    "blocks": {
        "is_block": "(row, value)",
        "each_block": "(row)",
        "blocks_of": "(row, *, least=1, most=12)",
        "overlapping_block": "(row, block)",
        "strong_blocks": "(row)",
        "is_plain": "(row)",
    },
    "trees": {
        "is_tree": "(value)",
        "tree_of": "(row)",
        "row_of": "(tree)",
        "size_of": "(tree)",
        "count_blocks": "(tree)",
        "part_at": "(tree, path)",
    },
    "folds": {
        "folds_of": "(row)",
        "folded": "(row, place)",
        "rest_of": "(row)",
        "is_foldable": "(row)",
        "states_along": "(row, history)",
        "is_history": "(row, value)",
        "find_four": "(row)",
        "certificate": "(row)",
        "certificate_holds": "(row, value)",
    },
    "counting": {
        "count_foldable": "(n)",
        "foldable_at": "(n, index)",
        "foldable_index": "(value)",
        "each_foldable": "(n)",
    },
    "plans": {
        "is_plan": "(value)",
        "plan_size": "(plan)",
        "number_at": "(plan, place)",
        "place_of": "(plan, number)",
        "expand_plan": "(plan)",
        "plan_of": "(tree)",
        "inversions": "(plan)",
        "plan_is_foldable": "(plan)",
    },
}
GENERATORS = ["each_block", "states_along", "each_foldable"]


class InterfaceTest(unittest.TestCase):
    def test_functions_are_defined_where_they_are_listed(self):
        for file, functions in SIGNATURES.items():
            module = importlib.import_module("rowfolds." + file)
            for name, signature in functions.items():
                with self.subTest(name):
                    function = getattr(module, name)
                    self.assertEqual(function.__module__, "rowfolds." + file)
                    self.assertEqual(str(inspect.signature(function)), signature)
                    self.assertEqual(inspect.isgeneratorfunction(function), name in GENERATORS)


if __name__ == "__main__":
    unittest.main()

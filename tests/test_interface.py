import importlib
import inspect
import unittest

from rowfolds.benches import Bench, LoggedBench
from rowfolds.shells import Shell

SIGNATURES = {
    "rows": {
        "is_row": "(value)",
        "row_error": "(value)",
        "pattern_of": "(numbers)",
        "reversed_row": "(row)",
        "flipped_row": "(row)",
        "inverse_row": "(row)",
        "chosen": "(row, places)",
        "joined": "(*rows, falling=False)",
    },
    "blocks": {
        "is_block": "(row, value)",
        "each_block": "(row)",
        "blocks_of": "(row, *, least=1, most=12)",
        "overlapping_block": "(row, block)",
        "strong_blocks": "(row)",
        "is_plain": "(row)",
    },
    "trees": {
        "is_tree": "(value)",
        "tree_of": "(row)",
        "row_of": "(tree)",
        "size_of": "(tree)",
        "count_blocks": "(tree)",
        "part_at": "(tree, path)",
    },
    "folds": {
        "folds_of": "(row)",
        "folded": "(row, place)",
        "rest_of": "(row)",
        "is_foldable": "(row)",
        "states_along": "(row, history)",
        "is_history": "(row, value)",
        "find_four": "(row)",
        "certificate": "(row)",
        "certificate_holds": "(row, value)",
    },
    "counting": {
        "count_foldable": "(n)",
        "foldable_at": "(n, index)",
        "foldable_index": "(value)",
        "each_foldable": "(n)",
    },
    "plans": {
        "is_plan": "(value)",
        "plan_size": "(plan)",
        "number_at": "(plan, place)",
        "place_of": "(plan, number)",
        "expand_plan": "(plan)",
        "plan_of": "(tree)",
        "inversions": "(plan)",
        "plan_is_foldable": "(plan)",
    },
    "selections": {
        "longest_rising": "(row)",
        "smallest_cover": "(row)",
        "shows_longest": "(row, value)",
        "rising_length": "(plan)",
        "falling_length": "(plan)",
        "count_rising": "(plan, length)",
    },
    "texts": {
        "row_text": "(row)",
        "tree_text": "(tree)",
        "parse_row": "(text)",
        "parse_tree": "(text)",
    },
}
GENERATORS = ["each_block", "states_along", "each_foldable"]
CLASSES = {
    "benches": {
        "Bench": "(row)",
        "FoldableBench": "(row)",
        "LoggedBench": "(row)",
        "LoggedFoldableBench": "(row)",
    },
    "shells": {
        "Shell": "(bench)",
    },
}
METHODS = {
    "exchange": "(self, place)",
    "insert": "(self, place, number)",
    "remove": "(self, place)",
    "turn": "(self, first, last)",
    "undo": "(self)",
    "run": "(self, edits, *, on_step=None)",
    "row": "(self, *, version=None)",
    "tree": "(self, *, version=None)",
    "edits": "(self)",
    "walk": "(self)",
    "__len__": "(self)",
    "__str__": "(self)",
    "__eq__": "(self, other)",
}


class InterfaceTest(unittest.TestCase):
    def test_functions_are_defined_where_they_are_listed(self):
        for file, functions in SIGNATURES.items():
            module = importlib.import_module("rowfolds." + file)
            for name, signature in functions.items():
                with self.subTest(name):
                    function = getattr(module, name)
                    self.assertEqual(function.__module__, "rowfolds." + file)
                    self.assertEqual(str(inspect.signature(function)), signature)
                    self.assertEqual(inspect.isgeneratorfunction(function), name in GENERATORS)

    def test_classes_are_defined_where_they_are_listed(self):
        for file, classes in CLASSES.items():
            module = importlib.import_module("rowfolds." + file)
            for name, signature in classes.items():
                with self.subTest(name):
                    listed = getattr(module, name)
                    self.assertEqual(listed.__module__, "rowfolds." + file)
                    self.assertEqual(str(inspect.signature(listed)), signature)
                    self.assertIn("__init__", vars(listed))

    def test_methods_are_defined_in_the_class_itself(self):
        for name, signature in METHODS.items():
            with self.subTest(name):
                self.assertEqual(str(inspect.signature(vars(Bench)[name])), signature)
                self.assertEqual(inspect.isgeneratorfunction(vars(Bench)[name]), name == "walk")
        self.assertEqual(str(inspect.signature(vars(Shell)["execute"])), "(self, line)")

    def test_static_and_class_methods(self):
        self.assertIsInstance(vars(Bench)["read"], classmethod)
        self.assertIsInstance(vars(Bench)["is_edit"], staticmethod)
        self.assertEqual(str(inspect.signature(Bench.read)), "(text)")
        self.assertEqual(str(inspect.signature(Bench.is_edit)), "(value)")

    def test_properties(self):
        for name in ("version", "size", "rest"):
            self.assertIsInstance(vars(Bench)[name], property)
        self.assertIsInstance(vars(LoggedBench)["log"], property)

    def test_class_values(self):
        self.assertEqual(vars(Bench)["MOST_EDITS"], 60)
        self.assertEqual(vars(Bench)["WORDS"], ("exchange", "insert", "remove", "turn"))


if __name__ == "__main__":
    unittest.main()

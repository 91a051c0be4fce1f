import importlib
import inspect
import unittest

SIGNATURES = {
    "rows": {
        "is_row": "(value)",
        "row_error": "(value)",
        "pattern_of": "(numbers)",
        "reversed_row": "(row)",
        "flipped_row": "(row)",
        "inverse_row": "(row)",
        "chosen": "(row, places)",
        "joined": "(*rows, falling=False)",
    },
    "blocks": {
        "is_block": "(row, value)",
        "each_block": "(row)",
        "blocks_of": "(row, *, least=1, most=12)",
        "overlapping_block": "(row, block)",
        "strong_blocks": "(row)",
        "is_plain": "(row)",
    },
}
GENERATORS = ["each_block"]


class InterfaceTest(unittest.TestCase):
    def test_functions_are_defined_where_they_are_listed(self):
        for file, functions in SIGNATURES.items():
            module = importlib.import_module("rowfolds." + file)
            for name, signature in functions.items():
                with self.subTest(name):
                    function = getattr(module, name)
                    self.assertEqual(function.__module__, "rowfolds." + file)
                    self.assertEqual(str(inspect.signature(function)), signature)
                    self.assertEqual(inspect.isgeneratorfunction(function), name in GENERATORS)


if __name__ == "__main__":
    unittest.main()

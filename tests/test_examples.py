"""The examples of the document, section by section, as they stand there."""

import unittest

from rowfolds import errors

ROWS = """
>>> from rowfolds.rows import is_row
>>> [is_row((2, 0, 1)), is_row((1, 2)), is_row(())]
[True, False, False]

>>> from rowfolds.rows import row_error
>>> [row_error((0, 0, 5)), row_error((3, 0, 1)), row_error([0])]
[(1, 'twice'), (0, 'number'), (None, 'row')]

>>> from rowfolds.rows import pattern_of
>>> pattern_of((50, -3, 7))
(2, 0, 1)

>>> from rowfolds.rows import flipped_row, inverse_row, reversed_row
>>> [reversed_row((2, 0, 1)), flipped_row((2, 0, 1)), inverse_row((2, 0, 1))]
[(1, 0, 2), (0, 2, 1), (1, 2, 0)]

>>> from rowfolds.rows import chosen
>>> R = (2, 0, 1, 3)
>>> chosen(R, (0, 1, 3))
(1, 0, 2)

>>> from rowfolds.rows import joined
>>> [joined((0,), (1, 0)), joined((0,), (1, 0), falling=True), joined((1, 0))]
[(0, 2, 1), (2, 1, 0), (1, 0)]

>>> from rowfolds.rows import joined
>>> joined()
raises NoRows()
"""

BLOCKS = """
>>> from rowfolds.blocks import is_block
>>> R = (2, 0, 1, 3)
>>> [is_block(R, (0, 2)), is_block(R, (2, 3)), is_block(R, (2, 2))]
[True, False, True]

>>> from rowfolds.blocks import each_block
>>> R = (2, 0, 1, 3)
>>> list(each_block(R))
[(0, 0), (0, 2), (0, 3), (1, 1), (1, 2), (2, 2), (3, 3)]

>>> from rowfolds.blocks import blocks_of
>>> R = (2, 0, 1, 3)
>>> [blocks_of(R, least=2), blocks_of(R, least=3, most=3)]
[((0, 2), (0, 3), (1, 2)), ((0, 2),)]

>>> from rowfolds.blocks import overlapping_block
>>> [overlapping_block((0, 1, 2), (0, 1)), overlapping_block((2, 0, 1, 3), (0, 2))]
[(1, 2), None]

>>> from rowfolds.blocks import strong_blocks
>>> strong_blocks((0, 1, 2))
((0, 0), (0, 2), (1, 1), (2, 2))

>>> from rowfolds.blocks import is_plain
>>> S = (1, 3, 0, 2)
>>> [is_plain(S), is_plain((2, 0, 1, 3)), is_plain((1, 0))]
[True, False, False]
"""


def outcome_of(lines):
    """Return what the last line shows, in the words of the document."""
    names = {}
    for line in lines[:-1]:
        exec(line, names)
    try:
        return repr(eval(lines[-1], names))
    except (errors.RowError, LookupError) as error:
        fields = ", ".join(repr(value) for value in vars(error).values())
        return f"raises {type(error).__name__}({fields})"


class ExamplesTest(unittest.TestCase):
    def check(self, section, many):
        examples = [example.splitlines() for example in section.strip().split("\n\n")]
        self.assertEqual(len(examples), many)
        for *session, expected in examples:
            with self.subTest(session[-1]):
                self.assertEqual(outcome_of([line.removeprefix(">>> ") for line in session]), expected)

    def test_rows(self):
        self.check(ROWS, 7)

    def test_blocks(self):
        self.check(BLOCKS, 6)


if __name__ == "__main__":
    unittest.main()

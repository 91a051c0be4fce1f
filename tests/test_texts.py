import re
import unittest

from rowfolds.errors import BadText
from rowfolds.rows import row_error
from rowfolds.texts import parse_row, parse_tree, row_text, tree_text
from samples import (
    LARGE_ROWS, LARGE_TREES, OTHER_VALUES, ROWS_TO_SIX, TREES, TREES_TO_FOUR, TWELVE, Draws, comb, direct_is_tree,
    direct_tree_text, nested,
)

ALL_ROWS = ROWS_TO_SIX + LARGE_ROWS
# Inserted anywhere in a text, or put in the place of one of its characters.
SIGNS = "0123456789 .,+-()x_\n"
WORD = re.compile("0|[1-9][0-9]{0,2}")
# A tree whose parts are places, or trees that were replaced by a number behind a sign that no text has.
INNERMOST = re.compile(r"\(([^ ()#]+)((?: (?:\.|#[0-9]+#))+)\)")


def direct_row_text(row):
    return str(row).strip("(,)").replace(",", "")


def direct_row(text):
    """Return ("row", row), or ("error", what BadText has)."""
    words = text.split(" ")
    wrong = [index for index, word in enumerate(words) if not WORD.fullmatch(word)]
    if wrong:
        return ("error", wrong[0])
    row = tuple(int(word) for word in words)
    error = row_error(row)
    return ("row", row) if error is None else ("error", error)


def direct_tree(text):
    """Return the tree of a text, or None: take trees without brackets inside away until nothing is left."""
    found = []
    left = text
    while match := INNERMOST.search(left):
        kind, parts = match.groups()
        parts = tuple("." if part == "." else found[int(part.strip("#"))] for part in parts.split())
        if re.fullmatch("[0-9,]+", kind):
            kind = tuple(int(number) if number else None for number in kind.split(","))
        left = left[:match.start()] + f"#{len(found)}#" + left[match.end():]
        found.append((kind, parts))
    tree = found[-1] if re.fullmatch("#[0-9]+#", left) else left
    return tree if direct_is_tree(tree) and direct_tree_text(tree) == text else None


def changed_texts(text):
    """Yield the text with a character inserted, removed or replaced, or two neighbours exchanged."""
    for at in range(len(text) + 1):
        for sign in SIGNS:
            yield text[:at] + sign + text[at:]
            yield text[:at] + sign + text[at + 1:]
        yield text[:at] + text[at + 1:]
        yield text[:at] + text[at + 1:at + 2] + text[at:at + 1] + text[at + 2:]


def changed_words(text):
    """Yield the text with a word removed, doubled, or exchanged with another one."""
    words = text.split(" ")
    for at, word in enumerate(words):
        yield " ".join(words[:at] + words[at + 1:])
        yield " ".join(words[:at] + [word, word] + words[at + 1:])
        for there in range(at):
            other = list(words)
            other[at], other[there] = other[there], other[at]
            yield " ".join(other)


def spaced_texts(text):
    """Yield the text with more spaces, or other white space, than it may have."""
    yield from [" " + text, text + " ", "  " + text, text + "\n", "\n" + text, text.replace(" ", "  "),
                text.replace(" ", "   ", 1), text.replace(" ", "\n"), text.replace(" ", "\t"), text.replace(" ", ""),
                text.replace(" ", ", "), f'"{text}"', f"({text})", f"[{text}]"]


class RowTextTest(unittest.TestCase):
    def test_all_rows(self):
        for row in ALL_ROWS:
            self.assertEqual(row_text(row), direct_row_text(row))
            self.assertIs(type(row_text(row)), str)

    def test_texts(self):
        self.assertEqual(row_text((0,)), "0")
        self.assertEqual(row_text(TWELVE), "6 0 7 1 8 2 9 3 10 4 11 5")

    def test_each_gives_back_what_the_other_one_took(self):
        for row in ALL_ROWS:
            self.assertEqual(parse_row(row_text(row)), row)
            self.assertEqual({type(number) for number in parse_row(row_text(row))}, {int})
            self.assertEqual(row_text(parse_row(direct_row_text(row))), direct_row_text(row))


class ParseRowTest(unittest.TestCase):
    def check(self, text):
        word, expected = direct_row(text)
        if word == "row":
            self.assertEqual(parse_row(text), expected)
        else:
            self.check_error(text, expected)
        return word

    def check_error(self, value, expected):
        with self.assertRaises(BadText, msg=str(value)[:200]) as caught:
            parse_row(value)
        error = caught.exception.error
        self.assertEqual((error, type(error)), (expected, type(expected)), str(value)[:200])

    def test_changed_texts(self):
        results = []
        for row in ROWS_TO_SIX[:40] + ROWS_TO_SIX[40::60] + LARGE_ROWS[::12]:
            text = direct_row_text(row)
            for changed in [*changed_texts(text), *changed_words(text), *spaced_texts(text)]:
                results.append(self.check(changed))
        self.assertGreater(min(results.count("row"), results.count("error")), 200)

    def test_two_changes(self):
        draws = Draws(41)
        for row in [(0,), (1, 0), (2, 0, 1), (0, 1, 2, 3), TWELVE]:
            once = list(changed_texts(direct_row_text(row)))
            for _ in range(30):
                twice = list(changed_texts(draws.item(once)))
                for _ in range(30):
                    self.check(draws.item(twice))

    def test_words_that_are_no_numbers(self):
        wrong = ["", "00", "01", "000", "007", "012", "+1", "-1", "-0", "1_0", "1.", "1.0", "0x1", "x", "1000", "0000",
                 "1234", "10" * 30, "1,", "1\n", "\n1", "one", "None", "True", "1e0", "(1)", "\t1", "1\t"]
        for word in wrong:
            self.check_error(word, 0)
            self.check_error(f"{word} 0", 0)
            self.check_error(f"0 {word}", 1)
            self.check_error(f"2 0 1 {word} x", 3)
            self.check_error(f"5 5 {word}", 2)
        for word in ["²", "٣", "１", "½"]:
            self.check_error(f"0 {word}", 1)

    def test_the_first_wrong_word(self):
        self.check_error("x y", 0)
        self.check_error("1 x y", 1)
        self.check_error("0 0 x", 2)
        self.check_error("999 x", 1)
        self.check_error("0  1 x", 1)
        self.check_error(" 0", 0)
        self.check_error("0 ", 1)
        self.check_error("", 0)
        self.check_error(" ", 0)

    def test_numbers_that_are_no_row(self):
        self.check_error("1", (0, "number"))
        self.check_error("0 0", (1, "twice"))
        self.check_error("0 2", (1, "number"))
        self.check_error("999", (0, "number"))
        self.check_error("0 999", (1, "number"))
        self.check_error("100 0 0", (0, "number"))

    def test_thirteen_numbers(self):
        self.assertEqual(parse_row(" ".join(map(str, range(12)))), tuple(range(12)))
        for many in (13, 14, 100, 900):
            text = " ".join(str(number) for number in range(many))[:2000]
            self.check_error(text, (None, "row"))
            self.check_error(text + " x", (len(text.split(" "))))
        self.check_error(" ".join("0" * 1000), (None, "row"))

    def test_values_that_are_no_texts(self):
        for value in OTHER_VALUES + [0, 1, (0,), [0], ["0"], ("0",), {"0": "0"}, (0, 1), b"0", None]:
            if isinstance(value, str):
                self.check(value)
            else:
                self.check_error(value, None)


class TreeTextTest(unittest.TestCase):
    def test_all_trees(self):
        for tree in TREES:
            self.assertEqual(tree_text(tree), direct_tree_text(tree))
            self.assertIs(type(tree_text(tree)), str)

    def test_texts(self):
        self.assertEqual(tree_text("."), ".")
        self.assertEqual(tree_text((TWELVE, (".",) * 12)), "(6,0,7,1,8,2,9,3,10,4,11,5" + " ." * 12 + ")")
        self.assertEqual(tree_text(comb(4)), "(+ . (- . (+ . .)))")
        self.assertEqual(tree_text(comb(4, "-", False)), "(- (+ (- . .) .) .)")

    def test_each_gives_back_what_the_other_one_took(self):
        for tree in TREES:
            self.assertEqual(parse_tree(tree_text(tree)), tree)
            self.assertEqual(parse_tree(direct_tree_text(tree)), tree)
            self.assertEqual(tree_text(parse_tree(direct_tree_text(tree))), direct_tree_text(tree))


class ParseTreeTest(unittest.TestCase):
    def check(self, text):
        expected = direct_tree(text)
        if expected is None:
            self.check_error(text)
        else:
            self.assertEqual(parse_tree(text), expected)
        return expected is None

    def check_error(self, value):
        with self.assertRaises(BadText, msg=str(value)[:200]) as caught:
            parse_tree(value)
        self.assertIsNone(caught.exception.error)

    def test_the_direct_look(self):
        for tree in TREES:
            self.assertEqual(direct_tree(direct_tree_text(tree)), tree)

    def test_changed_texts(self):
        results = []
        for tree in TREES_TO_FOUR + LARGE_TREES[::15]:
            text = direct_tree_text(tree)
            for changed in [*changed_texts(text), *changed_words(text), *spaced_texts(text)]:
                results.append(self.check(changed))
        self.assertGreater(results.count(False), 100)
        self.assertGreater(results.count(True), 1000)

    def test_two_changes(self):
        draws = Draws(42)
        for tree in [".", *TREES_TO_FOUR[1::5], LARGE_TREES[3], LARGE_TREES[-1]]:
            once = list(changed_texts(direct_tree_text(tree)))
            for _ in range(30):
                twice = list(changed_texts(draws.item(once)))
                for _ in range(30):
                    self.check(draws.item(twice))

    def test_one_part_or_none(self):
        for text in ["(+ .)", "(- .)", "(+)", "(+ )", "()", "(.)", "(. .)", "( . .)", "(0 .)", "(0,1 . .)",
                     "(+ . (- .))", "(+ (- .) .)", "(1,3,0,2 .)", "(1,3,0,2 . . .)", "(1,3,0,2 . . . . .)"]:
            self.check_error(text)

    def test_equal_kinds_inside_one_another(self):
        for kind, other in ("+-", "-+"):
            inner = f"({kind} . .)"
            for text in [f"({kind} {inner} .)", f"({kind} . {inner})", f"({kind} {inner} {inner})",
                         f"({other} . ({kind} {inner} .))"]:
                self.check_error(text)
            self.assertEqual(parse_tree(f"({other} {inner} {inner})"), (other, ((kind, (".", ".")),) * 2))

    def test_rows_that_are_not_plain(self):
        for row in ROWS_TO_SIX + LARGE_ROWS:
            text = "(" + ",".join(map(str, row)) + " ." * len(row) + ")"
            self.check(text)
        for kind in ["0,1,2,3", "1,3,0", "1,3,0,2,", ",1,3,0,2", "1,,3,0,2", "1,3,0,02", "01,3,0,2", "+1,3,0,2", "1302",
                     "1,3,0,-2", "1;3;0;2", "(1,3,0,2)", "1,3,0,2,4", "1,3,0,0", "1,4,0,2", "1, 3, 0, 2", "++", "+-",
                     "", "*", "1_0,3,0,2", "1,3,0,2000", "x"]:
            self.check_error(f"({kind} . . . .)")
        self.assertEqual(parse_tree("(1,3,0,2 . . . .)"), ((1, 3, 0, 2), (".",) * 4))

    def test_twelve_and_thirteen_entries(self):
        for kind in "+-":
            self.assertEqual(parse_tree(f"({kind}{' .' * 12})"), (kind, (".",) * 12))
            for many in (13, 14, 900):
                self.check_error(f"({kind}{' .' * many})")
        for size in range(2, 16):
            text = direct_tree_text(comb(size))
            if size <= 12:
                self.assertEqual(parse_tree(text), comb(size))
            else:
                self.check_error(text)
        self.check_error("(1,3,0,2 (+" + " ." * 10 + ") . . .)")
        self.assertEqual(parse_tree("(1,3,0,2 (+" + " ." * 9 + ") . . .)"), ((1, 3, 0, 2), (("+", (".",) * 9), *"...")))

    def test_very_many_brackets(self):
        for many in (13, 100, 400, 660, 1000, 2000):
            self.check_error("(" * many)
            self.check_error(")" * many)
            self.check_error("(+ " * (many // 3))
            self.check_error("(+ . " * (many // 5))
            self.check_error("." + ")" * (many - 1))
            self.check_error("(" * (many // 2) + ")" * (many // 2))
            self.check_error("(" * (many // 2) + "." + ")" * (many // 2))
            self.check_error(" ".join("(" * (many // 2)) + " ." + ")" * (many // 2))
            self.check_error(" ".join("." * (many // 2)))
            levels = 12 + many // 7
            self.check_error("(+ . (- . " * (levels // 2) + "." + ")" * (levels // 2 * 2))
            self.check_error("(+ (- " * (levels // 2) + "." + " .)" * (levels // 2 * 2))

    def test_brackets_that_do_not_match(self):
        for text in ["(", ")", "(+ . .", "(+ . .))", "+ . .)", "(+ . .) .", ". (+ . .)", "(+ . .)(+ . .)", "(+ . .) )",
                     "(+ . .) (+ . .)", "(+ . . )", "( + . .)", "(+ .  .)", "(+  . .)", "(+ . .) ", " (+ . .)", "..",
                     ". .", "", " ", ".)", "(.", "(+ . .).", "(+ ..)", "(+. .)", "(+ . (- . .)", "(+ . (- . .)))",
                     "(+ (- . .)(- . .))", "(+ . )- . .()"]:
            self.check_error(text)

    def test_values_that_are_no_texts(self):
        for value in OTHER_VALUES + [("+", (".", ".")), (".",), ["."], {".": "."}, b".", nested(".", 40), None, 0]:
            self.check_error(value)


if __name__ == "__main__":
    unittest.main()

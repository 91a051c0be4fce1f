"""Texts of rows and trees."""

from rowfolds.errors import BadText
from rowfolds.rows import row_error
from rowfolds.trees import is_tree


def row_text(row):
    """Return the text of a row."""
    return " ".join([str(number) for number in row])


def kind_text(kind):
    """Return the text of the kind of a tree."""
    if kind == "+" or kind == "-":
        return kind
    return ",".join([str(number) for number in kind])


def tree_text(tree):
    """Return the text of a tree."""
    if tree == ".":
        return "."
    kind, parts = tree
    words = [kind_text(kind)] + [tree_text(part) for part in parts]
    return "(" + " ".join(words) + ")"


def number_in(word):
    """Return the integer whose text the word is, or None if it is not the text of one with up to three digits."""
    if not 1 <= len(word) <= 3 or not all([sign in "0123456789" for sign in word]):
        return None
    number = int(word)
    return number if str(number) == word else None


def parse_row(text):
    """Return the row whose text this is."""
    if not isinstance(text, str):
        raise BadText(None)
    numbers = [number_in(word) for word in text.split(" ")]
    if None in numbers:
        raise BadText(numbers.index(None))
    row = tuple(numbers)
    error = row_error(row)
    if error is not None:
        raise BadText(error)
    return row


def kind_in(word):
    """Return the kind whose text the word is. A word of another form gives a value that is no kind."""
    if word == "+" or word == "-":
        return word
    return tuple([number_in(part) for part in word.split(",")])


def trees_in(words):
    """Return the list of the trees that stand one behind another in the words, none if the brackets do not match.

    Words that are not right are taken along, and give values that are no trees.
    """
    # The trees that are complete; then, for each bracket that is still open, the kind and the parts behind it.
    # There may be very many brackets, so there is no recursion here.
    opened = [[]]
    for word in words:
        if word.startswith("("):
            opened.append([kind_in(word[1:])])
            continue
        place = word.rstrip(")")
        opened[-1].append(place)
        closing = len(word) - len(place)
        if closing >= len(opened):
            return []
        for bracket in range(closing):
            closed = opened.pop()
            opened[-1].append((closed[0], tuple(closed[1:])))
    return opened[0] if len(opened) == 1 else []


def parse_tree(text):
    """Return the tree whose text this is."""
    if not isinstance(text, str):
        raise BadText(None)
    trees = trees_in(text.split(" "))
    if len(trees) != 1 or not is_tree(trees[0]):
        raise BadText(None)
    return trees[0]

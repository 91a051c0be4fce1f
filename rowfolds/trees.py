"""Trees: how the strong blocks of a row stand inside one another."""

from rowfolds.blocks import is_plain, strong_blocks
from rowfolds.bounds import MAX_PLACES
from rowfolds.errors import NoPath
from rowfolds.rows import is_row, pattern_of, put_together, reversed_row
from rowfolds.values import is_index, is_pair


def is_tree(value):
    """Return whether any value is a tree."""
    return size_within(value, MAX_PLACES) > 0


def size_within(value, room):
    """Return the size of a tree with at most room entries, and 0 for any other value."""
    if room < 1:
        return 0
    if value == ".":
        return 1
    if not is_pair(value) or not kind_fits(value[0], value[1]):
        return 0
    size = 0
    for at, part in enumerate(value[1]):
        # Each part behind this one has an entry or more. So there is less room at each level,
        # and no value, however deep or large, is followed further than a tree can go.
        behind = len(value[1]) - at - 1
        part_size = size_within(part, room - size - behind)
        if part_size == 0:
            return 0
        size += part_size
    return size


def kind_fits(kind, parts):
    """Return whether any two values may be the kind and the parts of a tree, whatever is inside the parts."""
    if not isinstance(parts, tuple) or len(parts) < 2:
        return False
    if kind == "+" or kind == "-":
        return not any([is_pair(part) and part[0] == kind for part in parts])
    return is_row(kind) and len(kind) == len(parts) and is_plain(kind)


def tree_of(row):
    """Return the tree whose row is row."""
    return tree_between(row, strong_blocks(row), 0, len(row) - 1)


def tree_between(row, strong, first, last):
    """Return the tree of the strong block (first, last) of the row."""
    if first == last:
        return "."
    stretches = greatest_inside(strong, first, last)
    # The numbers of a block follow one another, so any one of them tells how the blocks are ordered.
    order = pattern_of(tuple([row[begin] for begin, end in stretches]))
    parts = tuple([tree_between(row, strong, begin, end) for begin, end in stretches])
    return (kind_of_order(order), parts)


def greatest_inside(strong, first, last):
    """Return the list of the greatest strong blocks inside the block (first, last), which fill it."""
    stretches = []
    begin = first
    while begin <= last:
        end = max([there for here, there in strong if here == begin and there - here < last - first])
        stretches.append((begin, end))
        begin = end + 1
    return stretches


def kind_of_order(order):
    """Return the kind of a tree whose parts stand in this order."""
    ascending = tuple(range(len(order)))
    if order == ascending:
        return "+"
    if order == reversed_row(ascending):
        return "-"
    return order


def order_of_kind(kind, many):
    """Return the row in whose order the parts of a tree stand, if it has this kind and that many parts."""
    ascending = tuple(range(many))
    if kind == "+":
        return ascending
    if kind == "-":
        return reversed_row(ascending)
    return kind


def row_of(tree):
    """Return the row of a tree."""
    if tree == ".":
        return (0,)
    kind, parts = tree
    return put_together(order_of_kind(kind, len(parts)), [row_of(part) for part in parts])


def parts_of(tree):
    """Return the parts of a tree, none for a single place."""
    return () if tree == "." else tree[1]


def size_of(tree):
    """Return the number of places of the row of a tree."""
    if tree == ".":
        return 1
    return sum([size_of(part) for part in tree[1]])


def count_blocks(tree):
    """Return the number of blocks of the row of a tree."""
    if tree == ".":
        return 1
    kind, parts = tree
    inside = sum([count_blocks(part) for part in parts])
    if kind == "+" or kind == "-":
        return inside + len(parts) * (len(parts) - 1) // 2
    return inside + 1


def part_at(tree, path):
    """Return the part that is reached by the indexes of path, one after another."""
    if not isinstance(path, tuple):
        raise NoPath(path)
    part = tree
    for index in path:
        parts = parts_of(part)
        if not is_index(index, len(parts)):
            raise NoPath(path)
        part = parts[index]
    return part

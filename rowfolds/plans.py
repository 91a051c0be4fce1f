"""Plans: nested rows, in which a place may stand for all entries of another row."""

from rowfolds.bounds import MAX_ENTRIES, MAX_PLACES
from rowfolds.errors import NoNumber, NoPlace, TooLong
from rowfolds.folds import is_foldable
from rowfolds.rows import inverse_row, is_row, size_below
from rowfolds.trees import order_of_kind
from rowfolds.values import is_between, is_index, is_pair


def is_plan(value):
    """Return whether any value is a plan."""
    if not isinstance(value, tuple) or not 1 <= len(value) <= MAX_ENTRIES:
        return False
    return all([is_entry(entry, at) for at, entry in enumerate(value)])


def is_entry(value, at):
    """Return whether any value may be the entry with the index at of a plan."""
    if not is_pair(value):
        return False
    row, children = value
    if not is_row(row) or not isinstance(children, tuple) or len(children) != len(row):
        return False
    return all([is_between(child, -1, at - 1) for child in children])


def at_places(found, children, single):
    """Return the list of what was found for the child of each place, and single for a place without one."""
    return [single if child == -1 else found[child] for child in children]


def entry_sizes(plan):
    """Return the list of the sizes of the nested rows of all entries."""
    sizes = []
    for row, children in plan:
        sizes.append(sum(at_places(sizes, children, 1)))
    return sizes


def plan_size(plan):
    """Return the number of places of the nested row."""
    return entry_sizes(plan)[-1]


def nested_number(plan, place):
    """Return the number at a place that the nested row has."""
    sizes = entry_sizes(plan)
    number = 0
    left = place
    at = len(plan) - 1
    while at != -1:
        row, children = plan[at]
        widths = at_places(sizes, children, 1)
        here = 0
        while left >= widths[here]:
            left -= widths[here]
            here += 1
        number += size_below(row, widths, row[here])
        at = children[here]
    return number


def number_at(plan, place):
    """Return the number at a place of the nested row."""
    if not is_index(place, plan_size(plan)):
        raise NoPlace(place)
    return nested_number(plan, place)


def inverse_plan(plan):
    """Return the plan whose nested row is the inverse row of the nested row of this one."""
    entries = []
    for row, children in plan:
        inverse = inverse_row(row)
        entries.append((inverse, tuple([children[place] for place in inverse])))
    return tuple(entries)


def place_of(plan, number):
    """Return the place of a number of the nested row."""
    if not is_index(number, plan_size(plan)):
        raise NoNumber(number)
    return nested_number(inverse_plan(plan), number)


def expand_plan(plan):
    """Return the nested row."""
    size = plan_size(plan)
    if size > MAX_PLACES:
        raise TooLong(MAX_PLACES)
    return tuple([nested_number(plan, place) for place in range(size)])


def entries_of(tree, before):
    """Return the list of the entries for a tree with parts, if that many entries stand before them."""
    kind, parts = tree
    entries = []
    children = []
    for part in parts:
        if part == ".":
            children.append(-1)
        else:
            inside = entries_of(part, before + len(entries))
            entries.extend(inside)
            children.append(before + len(entries) - 1)
    entries.append((order_of_kind(kind, len(parts)), tuple(children)))
    return entries


def plan_of(tree):
    """Return a plan whose nested row is the row of the tree."""
    if tree == ".":
        return (((0,), (-1,)),)
    return tuple(entries_of(tree, 0))


def crossing_pairs(row, widths):
    """Return the number of pairs of entries in two places of which the greater number comes first."""
    pairs = [(here, there) for there in range(len(row)) for here in range(there)]
    return sum([widths[here] * widths[there] for here, there in pairs if row[here] > row[there]])


def inversions(plan):
    """Return the number of pairs of places of the nested row at which the greater number comes first."""
    sizes = entry_sizes(plan)
    pairs = []
    for row, children in plan:
        inside = sum([pairs[child] for child in children if child != -1])
        pairs.append(inside + crossing_pairs(row, at_places(sizes, children, 1)))
    return pairs[-1]


def plan_is_foldable(plan):
    """Return whether the nested row has no four."""
    # The pattern of a four is plain. So in each place of the last entry, a four of the nested row
    # has one of its entries at most, or all of them.
    results = []
    for row, children in plan:
        inside = [results[child] for child in children if child != -1]
        results.append(is_foldable(row) and all(inside))
    return results[-1]

"""Rows, trees, plans and other values that several tests use, and direct looks at rows to compare results with."""

from bisect import bisect_left
from itertools import combinations, permutations
from math import factorial

SMALL_ROWS = [row for size in range(1, 6) for row in permutations(range(size))]
ROWS_TO_SIX = SMALL_ROWS + list(permutations(range(6)))


class Draws:
    """Numbers that look drawn, and are the same in each run."""

    def __init__(self, seed):
        self.state = seed

    def below(self, limit):
        """Return a number from 0 to limit - 1."""
        number = 0
        for _ in range(1 + limit.bit_length() // 32):
            self.state = (self.state * 6364136223846793005 + 1442695040888963407) % 2 ** 64
            number = number << 32 | self.state >> 32
        return number % limit

    def item(self, items):
        return items[self.below(len(items))]


def row_at(size, index):
    """Return the row with this index in the order of all rows of the size, round and round."""
    left = list(range(size))
    row = []
    while left:
        index, at = divmod(index, len(left))
        row.append(left.pop(at))
    return tuple(row)


# The step is a prime number, so that the rows of each size differ in many ways.
LARGE_ROWS = [row_at(size, 15485863 * step + size) for size in range(6, 13) for step in range(1, 25)]
LARGE_ROWS += [tuple(range(size)) for size in range(6, 13)]
LARGE_ROWS += [tuple(range(size))[::-1] for size in range(6, 13)]
LARGE_ROWS += [(1, 3, 0, 2, 4, 5, 6, 7, 8, 9, 10, 11), (1, 0, 3, 2, 5, 4, 7, 6, 9, 8, 11, 10)]
LARGE_ROWS += [(11, 9, 10, 8, 0, 1, 2, 3, 7, 6, 5, 4), (6, 0, 7, 1, 8, 2, 9, 3, 10, 4, 11, 5)]

ROWS = SMALL_ROWS + LARGE_ROWS


def nested(value, levels):
    """Return the value inside of that many tuples and lists."""
    for level in range(levels):
        value = [value] if level % 2 else (value,)
    return value


# None of these is a row, a tuple of places, a block, a tree, a certificate or a plan.
OTHER_VALUES = [
    None, True, False, 0, 1, 2, -1, 10 ** 59, -(10 ** 59),
    "", "0", "0 1", "(0,)", "row", "\n", "x" * 2000,
    (), [], {}, [0], [0, 1], [0, 0], {"0": 0}, {"first": 0, "last": 1},
    (None,), (True,), (False,), ("0",), ("",), ((),), ((0,),), ([0],), ({},), ({"0": 0},), (-1,), (10 ** 59,),
    (False, True), (0, True), (False, 1), (0, None), (None, 0), (0, "1"), ("0", 1), ("0", "1"), "01",
    (0, (1,)), ((0,), 1), ((0, 1),), [(0, 1)], ((0, 1), (0, 1)), (0, [1]), ({}, {}), (-1, 0), (-2, -1), (0, -1),
    (0, 10 ** 59), (10 ** 59, 10 ** 59), (0, 1, None), (0, 1, "2"), (False, 1, 2),
    nested(0, 40), nested((0, 1), 39), (0,) * 1000, [0] * 1000,
]


def variants(value, others):
    """Yield the value with one part, at any depth, replaced, removed, repeated, or as a list."""
    if not isinstance(value, tuple):
        return
    yield list(value)
    for at, item in enumerate(value):
        before, behind = value[:at], value[at + 1:]
        yield before + behind
        yield before + (item, item) + behind
        for other in others:
            yield before + (other,) + behind
        for inner in variants(item, others):
            yield before + (inner,) + behind


def counted_pattern(numbers):
    return tuple(sum(other < number for other in numbers) for number in numbers)


def follow(row, first, last):
    """Say whether the numbers, when sorted, go up in steps of one."""
    numbers = sorted(row[first:last + 1])
    return all(number + 1 == greater for number, greater in zip(numbers, numbers[1:]))


def direct_blocks(row):
    pairs = [(first, last) for first in range(len(row)) for last in range(first, len(row))]
    return [pair for pair in pairs if follow(row, *pair)]


def overlap(block, other):
    places, others = [set(range(first, last + 1)) for first, last in (block, other)]
    return bool(places & others) and bool(places - others) and bool(others - places)


def direct_strong_blocks(row):
    blocks = direct_blocks(row)
    return [block for block in blocks if not any(overlap(block, other) for other in blocks)]


def direct_plain(row):
    return len(row) >= 4 and len(direct_blocks(row)) == len(row) + 1


def direct_fours(row):
    """Return all fours of a row, by comparing the four numbers with each other."""
    fours = []
    for places in combinations(range(len(row)), 4):
        a, b, c, d = (row[place] for place in places)
        if c < a < d < b or b < d < a < c:
            fours.append(places)
    return fours


def direct_folds(row):
    return [place for place in range(len(row) - 1) if row[place + 1] - row[place] in (1, -1)]


def direct_folded(row, place):
    """Take the entry behind place away, and close the gap among the numbers."""
    gone = row[place + 1]
    return tuple(number - (number > gone) for number in row if number != gone)


def direct_length(row):
    """Return the length of a longest rising selection, by way of the smallest numbers in which they end."""
    ends = []
    for number in row:
        at = bisect_left(ends, number)
        ends[at:at + 1] = [number]
    return len(ends)


def splits(size, many):
    """Yield all tuples of that many sizes from 1 on with the sum size."""
    for cuts in combinations(range(1, size), many - 1):
        yield tuple(end - begin for begin, end in zip((0, *cuts), (*cuts, size)))


def trees_of_size(size, known):
    """Return all trees of the size by the definition, with the trees of all smaller sizes in known."""
    if size == 1:
        return ["."]
    trees = []
    for many in range(2, size + 1):
        kinds = ["+", "-", *[row for row in permutations(range(many)) if direct_plain(row)]]
        for kind in kinds:
            for sizes in splits(size, many):
                chains = [()]
                for part_size in sizes:
                    parts = [part for part in known[part_size] if kind not in ("+", "-") or part[0] != kind]
                    chains = [chain + (part,) for chain in chains for part in parts]
                trees += [(kind, chain) for chain in chains]
    return trees


TREES_BY_SIZE = {}
for places in range(1, 7):
    TREES_BY_SIZE[places] = trees_of_size(places, TREES_BY_SIZE)
TREES_TO_FOUR = [tree for size in range(1, 5) for tree in TREES_BY_SIZE[size]]
TREES_TO_SIX = [tree for size in range(1, 7) for tree in TREES_BY_SIZE[size]]


def drawn_plain_row(draws, size):
    while True:
        row = row_at(size, draws.below(factorial(size)))
        if direct_plain(row):
            return row


def drawn_tree(draws, size, around=None):
    """Return a tree of the size that may be a part of a tree of the kind around."""
    if size == 1:
        return "."
    many = 2 + draws.below(size - 1)
    kinds = [kind for kind in ("+", "-") if kind != around]
    kind = drawn_plain_row(draws, many) if many >= 4 and draws.below(2) else draws.item(kinds)
    sizes = draws.item(list(splits(size, many)))
    return (kind, tuple(drawn_tree(draws, part_size, kind) for part_size in sizes))


def comb(size, first_kind="+", behind=True):
    """Return a tree with as many levels as a tree of the size can have."""
    tree = "."
    kind = first_kind
    for _ in range(size - 1):
        tree = (kind, (".", tree) if behind else (tree, "."))
        kind = "-" if kind == "+" else "+"
    return tree


TREE_DRAWS = Draws(2)
LARGE_TREES = [drawn_tree(TREE_DRAWS, size) for size in range(7, 13) for _ in range(25)]
LARGE_TREES += [comb(size, kind, behind) for size in (7, 11, 12) for kind in "+-" for behind in (True, False)]
LARGE_TREES += [(kind, (".",) * 12) for kind in ("+", "-", (6, 0, 7, 1, 8, 2, 9, 3, 10, 4, 11, 5))]
LARGE_TREES += [((1, 3, 0, 2), (((2, 0, 3, 1), (".",) * 4), ".", ("+", (".",) * 5), ("-", (".",) * 2)))]
TREES = TREES_TO_SIX + LARGE_TREES


def paths_of(tree):
    """Return the paths of the tree itself and of its parts at all levels, from left to right."""
    if tree == ".":
        return [()]
    return [()] + [(at, *path) for at, part in enumerate(tree[1]) for path in paths_of(part)]


def part_on(tree, path):
    return part_on(tree[1][path[0]], path[1:]) if path else tree


def leaves_of(tree):
    """Return for each place of the tree the numbers that its parts have on the way to it.

    Of two places, the one with the greater list of numbers has the greater number in the row of the tree.
    """
    if tree == ".":
        return [()]
    kind, parts = tree
    last = len(parts) - 1
    order = [at if kind == "+" else last - at if kind == "-" else kind[at] for at in range(len(parts))]
    return [(number, *rest) for number, part in zip(order, parts) for rest in leaves_of(part)]


def direct_row(tree):
    return counted_pattern(leaves_of(tree))


def direct_is_tree(value):
    """Follow the definition; the size is looked at last."""
    return has_form(value) and len(leaves_of(value)) <= 12


def has_form(value):
    if isinstance(value, str):
        return value == "."
    if not isinstance(value, tuple) or len(value) != 2:
        return False
    kind, parts = value
    if not isinstance(parts, tuple) or len(parts) < 2 or not all(has_form(part) for part in parts):
        return False
    if isinstance(kind, str):
        return kind in ("+", "-") and all(part[0] != kind for part in parts)
    if not isinstance(kind, tuple) or {type(number) for number in kind} != {int}:
        return False
    return sorted(kind) == list(range(len(parts))) and len(kind) <= 12 and direct_plain(kind)


def direct_tree_text(tree):
    """Write the tree as Python does, and take away what its text does not have."""
    if tree == ".":
        return "."
    kind, parts = tree
    return f"({str(kind).strip('()').replace(' ', '')} {' '.join(map(direct_tree_text, parts))})"


def plan_leaves(plan, at=-1):
    """Return for each place of the nested row of an entry the numbers on the way to it."""
    row, children = plan[at]
    leaves = []
    for number, child in zip(row, children):
        leaves += [(number,)] if child == -1 else [(number, *rest) for rest in plan_leaves(plan, child)]
    return leaves


def direct_nested_row(plan):
    """Return the nested row of a plan, written out by way of the ranks of its places."""
    leaves = plan_leaves(plan)
    ranks = {leaf: number for number, leaf in enumerate(sorted(leaves))}
    return tuple(ranks[leaf] for leaf in leaves)


def drawn_plan(draws, entries, places, back):
    """Return a plan with that many entries, of at most that many places, and children that many entries back."""
    plan = []
    for at in range(entries):
        size = 1 + draws.below(places)
        row = row_at(size, draws.below(factorial(size)))
        plan.append((row, tuple(max(-1, at - 1 - draws.below(back)) for _ in row)))
    return tuple(plan)


def put_behind(unused, plan):
    """Return the plan with some entries before it that it does not use."""
    many = len(unused)
    return unused + tuple((row, tuple(child if child == -1 else child + many for child in children))
                          for row, children in plan)


PLAN_DRAWS = Draws(3)
SMALL_PLANS = [drawn_plan(PLAN_DRAWS, entries, places, back) for entries in range(1, 7) for places in range(2, 6)
               for back in (2, 4, 8) for _ in range(6)]
SMALL_PLANS = [plan for plan in SMALL_PLANS if len(plan_leaves(plan)) <= 150]
SMALL_PLANS += [((row, (-1,) * len(row)),) for row in SMALL_ROWS[:60]]
SMALL_PLANS += [
    # The first entry is not used, and its row has a four.
    (((1, 3, 0, 2), (-1,) * 4), ((1, 0), (-1, -1)), ((0, 1, 2), (1, -1, 1))),
    # The four lies in the child of a child, which is used twice.
    (((2, 0, 3, 1), (-1,) * 4), ((0, 1), (-1, 0)), ((1, 0, 2), (1, -1, 1))),
    # Only the last entry has a four, and the nested rows of its children have none.
    (((1, 0), (-1, -1)), ((0, 1), (0, 0)), ((1, 3, 0, 2), (1, -1, 0, 1))),
    (((0,), (-1,)), ((0,), (0,)), ((0,), (1,))),
]

# The nested row of this plan has 12 ** 20 places.
TWELVE = (6, 0, 7, 1, 8, 2, 9, 3, 10, 4, 11, 5)
HUGE_PLAN = tuple((TWELVE, (at - 1,) * 12) for at in range(20))

LARGE_DRAWS = Draws(21)
# Their nested rows have from a few to more than 10 ** 12 entries.
LARGE_PLANS = [drawn_plan(LARGE_DRAWS, 20, places, back) for places in range(3, 13) for back in (1, 2, 3, 20)]
# Each entry uses the one before it at all places.
TOWERS = [HUGE_PLAN]
for tower_row in [(0, 1), (1, 0), (2, 0, 1), (1, 3, 0, 2), (4, 1, 3, 0, 2), tuple(range(12)), tuple(range(12))[::-1]]:
    TOWERS.append(tuple((tower_row, (at - 1,) * len(tower_row)) for at in range(20)))

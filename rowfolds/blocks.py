"""Blocks: stretches of neighbouring places whose numbers follow one another."""

from rowfolds.bounds import MAX_PLACES
from rowfolds.errors import NoBlock
from rowfolds.values import is_index, is_pair


def numbers_follow(row, first, last):
    """Return whether the numbers from place first to place last follow one another."""
    numbers = row[first:last + 1]
    # The numbers of a row are different, so there is no gap among them
    # if and only if the greatest is as far from the smallest as last from first.
    return max(numbers) - min(numbers) == last - first


def is_block(row, value):
    """Return whether any value is a block of the row."""
    if not is_pair(value):
        return False
    first, last = value
    if not is_index(first, len(row)) or not is_index(last, len(row)):
        return False
    return first <= last and numbers_follow(row, first, last)


def each_block(row):
    """Yield all blocks of the row in ascending order, one by one."""
    for first in range(len(row)):
        for last in range(first, len(row)):
            if numbers_follow(row, first, last):
                yield (first, last)


def blocks_of(row, *, least=1, most=MAX_PLACES):
    """Return the ascending tuple of the blocks with least to most places."""
    return tuple([(first, last) for first, last in each_block(row) if least <= last - first + 1 <= most])


def begins_across(block, other):
    """Return whether other begins inside of block, behind its first place, and ends behind it."""
    return block[0] < other[0] <= block[1] < other[1]


def find_overlapping(blocks, block):
    """Return the first of the blocks that overlaps block, or None."""
    for other in blocks:
        if begins_across(block, other) or begins_across(other, block):
            return other
    return None


def overlapping_block(row, block):
    """Return a block that overlaps this one, or None if it is strong."""
    if not is_block(row, block):
        raise NoBlock(block)
    blocks = list(each_block(row))
    return find_overlapping(blocks, block)


def strong_blocks(row):
    """Return the ascending tuple of the blocks that no block overlaps."""
    blocks = list(each_block(row))
    return tuple([block for block in blocks if find_overlapping(blocks, block) is None])


def is_plain(row):
    """Return whether the row has four or more places, and only the blocks that every row has."""
    return len(row) >= 4 and len(blocks_of(row, least=2, most=len(row) - 1)) == 0

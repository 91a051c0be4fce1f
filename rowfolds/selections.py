"""Selections: places whose numbers rise or fall, in rows and in nested rows."""

from rowfolds.plans import at_places
from rowfolds.rows import are_places, flipped_row
from rowfolds.values import is_ascending, is_pair


def lengths_up_to(row, weights):
    """Return for each place the greatest sum of weights of a rising selection that ends there."""
    lengths = []
    for place, number in enumerate(row):
        before = [lengths[earlier] for earlier in range(place) if row[earlier] < number]
        lengths.append(weights[place] + max(before, default=0))
    return lengths


def place_counts(row):
    """Return for each place how many places a longest rising selection has that ends there."""
    return lengths_up_to(row, [1] * len(row))


def longest_rising(row):
    """Return a rising selection with as many places as possible."""
    counts = place_counts(row)
    wanted = max(counts)
    places = ()
    # Before a place with a count above 1 there is one with a smaller number whose count is less by 1. The last one
    # with that count before it is such a place, too: the numbers at places with the same count fall.
    for place in range(len(row) - 1, -1, -1):
        if counts[place] == wanted:
            places = (place,) + places
            wanted -= 1
    return places


def smallest_cover(row):
    """Return a falling cover with as few selections as possible."""
    counts = place_counts(row)
    # The numbers at places with the same count fall: a greater one behind a smaller one has a greater count.
    # The first place with a count stands behind a place whose count is less by 1, so the tuple is ascending.
    return tuple([places_with(counts, count) for count in range(1, max(counts) + 1)])


def places_with(counts, wanted):
    """Return the ascending tuple of the places with this count."""
    return tuple([place for place, count in enumerate(counts) if count == wanted])


def is_rising(row, value):
    """Return whether any value is a rising selection of one or more places."""
    return are_places(row, value) and is_ascending([row[place] for place in value])


def is_falling(row, value):
    """Return whether any value is a falling selection of one or more places."""
    return are_places(row, value) and is_ascending([row[place] for place in value[::-1]])


def is_cover(row, value):
    """Return whether any value is a falling cover of the row."""
    if not isinstance(value, tuple) or not all([is_falling(row, selection) for selection in value]):
        return False
    places = [place for selection in value for place in selection]
    return is_ascending(value) and sorted(places) == list(range(len(row)))


def shows_longest(row, value):
    """Return whether any value is (selection, cover), which shows that neither can be improved."""
    if not is_pair(value):
        return False
    selection, cover = value
    # Each row has a place, so a cover has a selection, and an empty selection is always too short.
    return is_rising(row, selection) and is_cover(row, cover) and len(selection) == len(cover)


def rising_length(plan):
    """Return the number of places of a longest rising selection of the nested row."""
    lengths = []
    for row, children in plan:
        weights = at_places(lengths, children, 1)
        lengths.append(max(lengths_up_to(row, weights)))
    return lengths[-1]


def falling_length(plan):
    """Return the number of places of a longest falling selection of the nested row."""
    return rising_length(tuple([(flipped_row(row), children) for row, children in plan]))


def count_rising(plan, length):
    """Return the number of rising selections of the nested row with length places."""
    if length < 0:
        return 0
    single = [1 if size <= 1 else 0 for size in range(length + 1)]
    counts = []
    for row, children in plan:
        counts.append(count_in_entry(row, at_places(counts, children, single)))
    return counts[-1][length]


def count_in_entry(row, inside):
    """Return the list of the numbers of rising selections with 0, 1, 2 .. places, from those inside each place."""
    empty = [1] + [0] * (len(inside[0]) - 1)
    ending = []
    for place, number in enumerate(row):
        before = [ending[earlier] for earlier in range(place) if row[earlier] < number]
        ending.append(count_continued(added([empty] + before), inside[place]))
    return added([empty] + ending)


def added(lists):
    """Return the list of the sums of the first items, of the second items, and so on."""
    return [sum(items) for items in zip(*lists)]


def count_continued(before, inside):
    """Return the list of the numbers of selections that take one or more places inside behind those before."""
    return [sum([before[size - more] * inside[more] for more in range(1, size + 1)]) for size in range(len(before))]

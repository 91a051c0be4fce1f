"""What the other files ask of a value that may be of any kind."""


def is_between(value, least, most):
    """Return whether value is an integer from least to most."""
    # For Python, True and False are ints; here they are no integers.
    if isinstance(value, bool) or not isinstance(value, int):
        return False
    return least <= value <= most


def is_index(value, limit):
    """Return whether value is an integer from 0 to limit - 1."""
    return is_between(value, 0, limit - 1)


def is_pair(value):
    """Return whether value is a tuple of two items."""
    return isinstance(value, tuple) and len(value) == 2


def is_ascending(items):
    """Return whether each item is greater than the one before it. The items have an order."""
    return all([item < later for item, later in zip(items, items[1:])])

"""What the other files ask of a value that may be of any kind."""


def is_index(value, limit):
    """Return whether value is an integer from 0 to limit - 1."""
    # For Python, True and False are ints; here they are no integers.
    if isinstance(value, bool) or not isinstance(value, int):
        return False
    return 0 <= value < limit

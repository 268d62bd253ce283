"""What counts as an INTEGER, a COUNT, a list that is passed; copies of values."""


def is_integer(value):
    """Whether any value is an INTEGER."""
    # To Python a bool is an int, but True is never taken for 1.
    return isinstance(value, int) and not isinstance(value, bool)


def is_count(value):
    """Whether any value is a COUNT."""
    return is_integer(value) and value >= 0


def is_list(value):
    """Whether any value may stand where a list is wanted."""
    return isinstance(value, (list, tuple))


def copied(value):
    """The value with new lists and tuples, also inside it."""
    if isinstance(value, list):
        return [copied(one) for one in value]
    if isinstance(value, tuple):
        return tuple([copied(one) for one in value])
    return value

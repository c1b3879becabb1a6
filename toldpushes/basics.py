"""What passes for an INTEGER, a COUNT and a list, and new copies."""


def is_integer(value):
    """Whether any value is an INTEGER."""
    return isinstance(value, int) and not isinstance(value, bool)


def is_count(value):
    """Whether any value is a COUNT."""
    return is_integer(value) and value >= 0


def is_list(value):
    """Whether any value passes for a list: a tuple does as well."""
    return isinstance(value, (list, tuple))


def fresh(value):
    """The value, with new lists and tuples at whatever depth."""
    if isinstance(value, list):
        return [fresh(part) for part in value]
    if isinstance(value, tuple):
        return tuple([fresh(part) for part in value])
    return value

"""What passes for an INTEGER, a COUNT and a list."""


def is_integer(value):
    """Whether any value is an INTEGER."""
    return isinstance(value, int) and not isinstance(value, bool)


def is_count(value):
    """Whether any value is a COUNT."""
    return is_integer(value) and value >= 0


def is_list(value):
    """Whether any value passes for a list: a tuple does as well."""
    return isinstance(value, (list, tuple))

"""What passes for a size, of a plan or of a table."""

from toldpushes.basics import is_count
from toldpushes.errors import InvalidSize

MOST_THINGS = 6


def is_size(value):
    """Whether any value is a COUNT to 6."""
    return is_count(value) and value <= MOST_THINGS


def check_size(size):
    """InvalidSize(size) unless it is a COUNT to 6."""
    if not is_size(size):
        raise InvalidSize(size)

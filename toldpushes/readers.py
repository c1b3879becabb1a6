"""Written forms read again, and the wrong line of what is none."""

from toldpushes.drawing import are_arrows, are_ties
from toldpushes.errors import InvalidText
from toldpushes.plans import Plan
from toldpushes.sizes import is_size
from toldpushes.texts import is_any_arrows, is_any_lot, is_few_numbers, is_way
from toldpushes.words import count_of, number_of


def require(at, holds):
    """InvalidText of the row at the place unless this holds."""
    if not holds:
        raise InvalidText(at + 1)


def values_at(rows, at, word, meaning):
    """What the words behind this word mean, in the row at the place.

    InvalidText of this row unless it is there, begins with the word, and each word behind it means something.
    """
    require(at, at < len(rows) and rows[at][0] == word)
    found = [meaning(part) for part in rows[at][1:]]
    require(at, not any([value is None for value in found]))
    return found


def size_of(rows, word):
    """The size that stands behind this word in the first row."""
    found = values_at(rows, 0, word, count_of)
    require(0, len(found) == 1 and is_size(found[0]))
    return found[0]


def table_from(rows, first, word, size):
    """The table of this size whose rows begin with this word, from the first place on."""
    found = []
    for at in range(first, first + size):
        numbers = values_at(rows, at, word, number_of)
        require(at, len(numbers) == size)
        found.append(numbers)
    return found


def pairs_from(rows, first, word, may_be):
    """The pairs of the rows that begin with this word, from the first place on until one does not.

    Each must stand behind the one ahead of it, and such as may be together with those ahead.
    """
    found = []
    for at in range(first, len(rows)):
        if rows[at][0] != word:
            return found
        pair = tuple(values_at(rows, at, word, count_of))
        require(at, may_be([*found, pair]) and (len(found) == 0 or found[-1] < pair))
        found.append(pair)
    return found


def read_numbers(rows):
    """A tuple, as of all readers below: the value, and of how many rows it is."""
    found = values_at(rows, 0, "numbers", number_of)
    require(0, is_few_numbers(found))
    return found, 1


def read_table(rows):
    """A table."""
    size = size_of(rows, "table")
    return table_from(rows, 1, "line", size), 1 + size


def read_lot(rows):
    """A rising list of things."""
    found = values_at(rows, 0, "lot", count_of)
    require(0, is_any_lot(found))
    return found, 1


def read_arrows(rows):
    """A list of arrows."""
    require(0, rows[0] == ["arrows"])
    found = pairs_from(rows, 1, "arrow", is_any_arrows)
    return found, 1 + len(found)


def read_plan(rows):
    """A Plan."""
    size = size_of(rows, "plan")
    arrows = pairs_from(rows, 1, "arrow", lambda pairs: are_arrows(size, pairs))
    ties = pairs_from(rows, 1 + len(arrows), "tie", lambda pairs: are_ties(size, pairs))
    return Plan(size, arrows, ties), 1 + len(arrows) + len(ties)


def read_telling(rows):
    """A tuple of two tables of one size."""
    size = size_of(rows, "telling")
    return (table_from(rows, 1, "push", size), table_from(rows, 1 + size, "own", size)), 1 + 2 * size


def read_road(rows):
    """A tuple of two lists of things."""
    require(0, rows[0] == ["road"])
    up = values_at(rows, 1, "up", count_of)
    require(1, is_way(up))
    down = values_at(rows, 2, "down", count_of)
    require(2, is_way(down))
    return (up, down), 3


READERS = {"numbers": read_numbers, "table": read_table, "lot": read_lot, "arrows": read_arrows, "plan": read_plan,
           "telling": read_telling, "road": read_road}


def read(text):
    """A tuple of the sort and the value that has this written form."""
    if not isinstance(text, str):
        raise InvalidText(0)
    lines = text.split("\n")
    # What stands behind the last line feed is no line: there must be nothing.
    rows = [line.split(" ") for line in lines[:-1]]
    sort = rows[0][0] if rows else ""
    require(0, sort in READERS)
    read_rows = READERS[sort]
    value, many = read_rows(rows)
    require(many, len(rows) == many)
    require(many, lines[-1] == "")
    return sort, value

"""The sorts of values, and their written forms."""

from toldpushes.basics import is_list
from toldpushes.checks import is_rising
from toldpushes.drawing import are_pairs, is_thing
from toldpushes.errors import InvalidSort, InvalidValue
from toldpushes.plans import Plan
from toldpushes.ratios import are_numbers
from toldpushes.sizes import MOST_THINGS
from toldpushes.tables import is_table

MOST_NUMBERS = 40


def is_few_numbers(value):
    """Whether any value is a list of 0 to 40 NUMBERS."""
    return are_numbers(value) and len(value) <= MOST_NUMBERS


def is_one_table(value):
    """Whether any value is a table."""
    return is_table(value)


def is_any_lot(value):
    """Whether any value is a rising list of unlike things of the greatest plans."""
    return is_rising(MOST_THINGS, value)


def is_any_arrows(value):
    """Whether any value is a list of unlike tuples of two unlike things of the greatest plans."""
    return are_pairs(MOST_THINGS, value)


def is_plan(value):
    """Whether any value is a Plan."""
    return isinstance(value, Plan)


def is_two_tables(value):
    """Whether any value is a tuple of two tables of one size."""
    if not isinstance(value, tuple) or len(value) != 2 or not all([is_table(part) for part in value]):
        return False
    return len(value[0]) == len(value[1])


def is_way(value):
    """Whether any value is a list of 1 to 6 things of the greatest plans."""
    if not is_list(value) or not 1 <= len(value) <= MOST_THINGS:
        return False
    return all([is_thing(MOST_THINGS, thing) for thing in value])


def is_two_ways(value):
    """Whether any value is a tuple of two lists of 1 to 6 things."""
    return isinstance(value, tuple) and len(value) == 2 and all([is_way(part) for part in value])


def line_with(word, numbers):
    """The line of the word and of the NUMBERS behind it."""
    return " ".join([word, *[str(number) for number in numbers]]) + "\n"


def lines_with(word, rows):
    """A line with the word for each row of NUMBERS."""
    return "".join([line_with(word, row) for row in rows])


def numbers_written(value):
    """The written form of a list of NUMBERS."""
    return line_with("numbers", value)


def table_written(value):
    """The written form of a table."""
    return line_with("table", [len(value)]) + lines_with("line", value)


def lot_written(value):
    """The written form of a rising list of things."""
    return line_with("lot", value)


def arrows_written(value):
    """The written form of a list of arrows."""
    return "arrows\n" + lines_with("arrow", sorted(value))


def plan_written(value):
    """The written form of a Plan."""
    head = line_with("plan", [value.width])
    return head + lines_with("arrow", value.arrows()) + lines_with("tie", value.ties())


def telling_written(value):
    """The written form of a tuple of two tables of one size."""
    pushes, own = value
    return line_with("telling", [len(pushes)]) + lines_with("push", pushes) + lines_with("own", own)


def road_written(value):
    """The written form of a tuple of two lists of things."""
    up, down = value
    return "road\n" + line_with("up", up) + line_with("down", down)


CHECKS = {"numbers": is_few_numbers, "table": is_one_table, "lot": is_any_lot, "arrows": is_any_arrows,
          "plan": is_plan, "telling": is_two_tables, "road": is_two_ways}
WRITERS = {"numbers": numbers_written, "table": table_written, "lot": lot_written, "arrows": arrows_written,
           "plan": plan_written, "telling": telling_written, "road": road_written}


def sorts():
    """The list of the words of the sorts, in their sequence."""
    return list(CHECKS)


def is_of_sort(sort, value):
    """Whether any value is one of this sort."""
    if not isinstance(sort, str) or sort not in CHECKS:
        raise InvalidSort(sort)
    check = CHECKS[sort]
    return check(value)


def written(sort, value):
    """The written form of a value of this sort."""
    if not is_of_sort(sort, value):
        raise InvalidValue(value)
    write = WRITERS[sort]
    return write(value)

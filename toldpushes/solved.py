"""Rows and goals: steps, kernels, solutions, and bars that show that there is no solution."""

from toldpushes.basics import is_count, is_list
from toldpushes.errors import InvalidGoals, InvalidMany, InvalidRows
from toldpushes.ratios import Ratio, are_numbers, as_ratio
from toldpushes.reckon import in_steps, led

MOST_ROWS = 60
MOST_WIDE = 60


def is_wide(value):
    """Whether any value is a width that rows can have."""
    return is_count(value) and 1 <= value <= MOST_WIDE


def are_rows(value):
    """Whether any value is rows."""
    if not is_list(value) or len(value) > MOST_ROWS:
        return False
    if not all([are_numbers(row) and is_wide(len(row)) for row in value]):
        return False
    return all([len(row) == len(value[0]) for row in value])


def check_rows(rows):
    """InvalidRows(rows) unless they are rows."""
    if not are_rows(rows):
        raise InvalidRows(rows)


def check_goals(rows, goals):
    """InvalidRows(rows) unless they are rows, and some; InvalidGoals(goals) unless there is one for each row."""
    check_rows(rows)
    if len(rows) == 0:
        raise InvalidRows(rows)
    if not are_numbers(goals) or len(goals) != len(rows):
        raise InvalidGoals(goals)


def solve(rows, goals):
    """A list that each row leads to its goal; None if there is none. There is a row, perhaps without a number."""
    wide = len(rows[0])
    lines, places = in_steps([[*row, goal] for row, goal in zip(rows, goals)])
    # A head among the goals is a row that leads all lists to 0, with a goal of 1.
    if wide in places:
        return None
    found = [Ratio(0) for _ in range(wide)]
    for line, place in zip(lines, places):
        found[place] = line[wide]
    return found


def steps(rows):
    """The steps of the rows."""
    check_rows(rows)
    return in_steps(rows)[0]


def kernel_line(lines, places, free, wide):
    """The list, led to 0 by all lines, that has 1 at the free place and 0 at all others without a head."""
    found = [Ratio(0) for _ in range(wide)]
    found[free] = Ratio(1)
    for line, place in zip(lines, places):
        found[place] = -line[free]
    return found


def kernel(rows, wide):
    """The steps of which all lists are made, as wide as told, that each row leads to 0."""
    check_rows(rows)
    if not is_wide(wide):
        raise InvalidMany(wide)
    if len(rows) > 0 and len(rows[0]) != wide:
        raise InvalidRows(rows)
    # Turned round, each row's head is the last of its numbers: a line of the kernel, made of a place without a head
    # and of heads further left, then has its own head at that place when it is turned back.
    lines, places = in_steps([row[::-1] for row in rows])
    free = [place for place in range(wide) if place not in places]
    return [kernel_line(lines, places, place, wide)[::-1] for place in free[::-1]]


def solution(rows, goals):
    """A solution of the rows with these goals; None if there is none."""
    check_goals(rows, goals)
    return solve(rows, goals)


def is_solution(rows, goals, value):
    """Whether any value is a solution of the rows with these goals."""
    check_goals(rows, goals)
    if not are_numbers(value) or len(value) != len(rows[0]):
        return False
    return all([led(row, value) == as_ratio(goal) for row, goal in zip(rows, goals)])


def barring(rows, goals):
    """A list of Ratios, one for each row, that makes noughts of the rows and not 0 of the goals; None if none does."""
    columns = list(zip(*rows))
    # What is not 0 can be scaled to 1, so a bar may be sought as a solution.
    return solve([*columns, goals], [0] * len(columns) + [1])


def is_barring(rows, goals, value):
    """Whether any value is a list of NUMBERS, one for each row, that makes noughts of them and not 0 of the goals."""
    if not are_numbers(value) or len(value) != len(rows):
        return False
    sums = [led(column, value) for column in zip(*rows)]
    return all([number.sign == 0 for number in sums]) and led(goals, value).sign != 0


def bar(rows, goals):
    """A bar of the rows with these goals; None if there is none."""
    check_goals(rows, goals)
    return barring(rows, goals)


def is_bar(rows, goals, value):
    """Whether any value is a bar of the rows with these goals."""
    check_goals(rows, goals)
    return is_barring(rows, goals, value)

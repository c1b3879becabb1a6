"""Square tables of NUMBERS: products, what undoes them, determinants and pivots."""

from toldpushes.basics import is_list
from toldpushes.errors import InvalidTable, NotSymmetric, NotUndone, UnlikeSizes
from toldpushes.ratios import Ratio, are_numbers, as_ratio
from toldpushes.reckon import determinant_of, in_steps, led, told
from toldpushes.sizes import check_size, is_size


def is_table(value):
    """Whether any value is a table."""
    if not is_list(value) or not is_size(len(value)):
        return False
    return all([are_numbers(row) and len(row) == len(value) for row in value])


def check_table(table):
    """InvalidTable(table) unless it is a table, of whatever size."""
    if not is_table(table):
        raise InvalidTable(table)


def check_two(table, other):
    """InvalidTable of the first one that is no table; UnlikeSizes() unless both are of one size."""
    check_table(table)
    check_table(other)
    if len(table) != len(other):
        raise UnlikeSizes()


def table_with(line, pairs, number):
    """The told table with these NUMBERS on its line, the number at all pairs of unlike places, and 0 else."""
    places = range(len(line))
    found = [[Ratio(0) for _ in places] for _ in places]
    for place in places:
        found[place][place] = as_ratio(line[place])
    for row, place in pairs:
        found[row][place] = as_ratio(number)
    return found


def idle(size):
    """The idle table: 1 on the line, 0 else."""
    check_size(size)
    return table_with([1] * size, [], 0)


def times(table, other):
    """The product of both tables."""
    check_two(table, other)
    columns = about(other)
    return [[led(row, column) for column in columns] for row in table]


def less(table, other):
    """The table, at each place less the other one."""
    check_two(table, other)
    return [[number - worth for number, worth in zip(row, line)] for row, line in zip(told(table), other)]


def about(table):
    """The table turned about: its columns as rows."""
    check_table(table)
    rows = told(table)
    return [list(column) for column in zip(*rows)]


def undone(table):
    """The table that undoes it."""
    check_table(table)
    size = len(table)
    lines, places = in_steps([[*row, *line] for row, line in zip(table, idle(size))])
    # What brings the table to the idle one brings the idle one, beside it, to the table that undoes it.
    if places != list(range(size)):
        raise NotUndone()
    return [line[size:] for line in lines]


def determinant(table):
    """The table's determinant."""
    check_table(table)
    return determinant_of(table)


def is_symmetric(table):
    """Whether the table is the same turned about."""
    check_table(table)
    return told(table) == about(table)


def pivots(table):
    """The list of the table's pivots."""
    if not is_symmetric(table):
        raise NotSymmetric()
    return [determinant_of([row[:many] for row in table[:many]]) for many in range(1, len(table) + 1)]


def is_above(table):
    """Whether the table is above nought."""
    return is_symmetric(table) and all([pivot.sign > 0 for pivot in pivots(table)])

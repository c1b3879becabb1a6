"""Tellings of plans: their tables, what is left of things, other measures and closed lots."""

from toldpushes.checks import check_lot, check_plan, check_pushes, check_symmetric, check_telling, is_telling_of
from toldpushes.drawing import both_ways
from toldpushes.errors import InvalidNumbers, NotClosed
from toldpushes.ratios import are_numbers, as_ratio
from toldpushes.reckon import told
from toldpushes.tables import about, idle, less, table_with, times, undone


def is_telling(plan, value):
    """Whether any value is a telling of the plan."""
    check_plan(plan)
    return is_telling_of(plan, value)


def table_of(plan, telling):
    """The table of the telling: how its things go together."""
    check_plan(plan)
    check_telling(plan, telling)
    pushes, own = telling
    through = undone(less(idle(plan.width), pushes))
    return times(times(about(through), own), through)


def ones(plan):
    """The plan's ones: a telling with 1 at each arrow and at each tie."""
    check_plan(plan)
    size = plan.width
    return table_with([0] * size, plan.arrows(), 1), table_with([size] * size, both_ways(plan.ties()), 1)


def lefts(plan, pushes, table):
    """How what is left of each thing goes with each thing."""
    check_plan(plan)
    check_pushes(plan, pushes)
    check_symmetric(plan.width, table)
    return times(about(less(idle(plan.width), pushes)), table)


def own_of(plan, pushes, table):
    """The own table that pushes and table tell: how what is left of each thing goes with what is left of each."""
    return times(lefts(plan, pushes, table), less(idle(plan.width), pushes))


def check_measures(plan, numbers):
    """InvalidNumbers(numbers) unless they are a list of NUMBERS other than 0, one for each thing."""
    if not are_numbers(numbers) or len(numbers) != plan.width:
        raise InvalidNumbers(numbers)
    if not all([as_ratio(number).sign != 0 for number in numbers]):
        raise InvalidNumbers(numbers)


def scaled(plan, telling, numbers):
    """The telling of the things, each times its number."""
    check_plan(plan)
    check_telling(plan, telling)
    check_measures(plan, numbers)
    pushes, own = told(telling[0]), told(telling[1])
    measures = [as_ratio(number) for number in numbers]
    things = range(plan.width)
    new_pushes = [[(pushes[i][j] * measures[j]).over(measures[i]) for j in things] for i in things]
    return new_pushes, [[own[i][j] * measures[i] * measures[j] for j in things] for i in things]


def cut_table(table, lot):
    """The lot's part of a table, a told table."""
    rows = told(table)
    return [[rows[row][place] for place in lot] for row in lot]


def is_closed(plan, lot):
    """Whether the lot has, with each of its things, all that lead to it."""
    return all([start in lot for start, end in plan.arrows() if end in lot])


def cut_telling(plan, telling, lot):
    """The telling, cut out, of the plan of a closed lot."""
    check_plan(plan)
    check_telling(plan, telling)
    check_lot(plan, lot)
    if not is_closed(plan, lot):
        raise NotClosed()
    return cut_table(telling[0], lot), cut_table(telling[1], lot)

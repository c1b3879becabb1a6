"""Twins: two tellings of a plan with one table, but unlike pushes."""

from toldpushes.bars import bar_of
from toldpushes.checks import check_lot, check_plan, check_telling, is_telling_of
from toldpushes.drawing import both_ways, within
from toldpushes.errors import NotBarred
from toldpushes.lots import head, is_barred
from toldpushes.reckon import told
from toldpushes.tables import table_with
from toldpushes.tellings import table_of


def check_two_tellings(plan, telling, other):
    """The errors that a plan and two tellings of it have."""
    check_plan(plan)
    check_telling(plan, telling)
    check_telling(plan, other)


def are_twins(plan, value):
    """Whether any value is twins of the plan."""
    check_plan(plan)
    if not isinstance(value, tuple) or len(value) != 2 or not all([is_telling_of(plan, part) for part in value]):
        return False
    first, second = value
    return told(first[0]) != told(second[0]) and same_table(plan, first, second)


def steps_nearer(arrows, doors, many):
    """Arrows by which each thing that is no door comes to a door, one arrow from each, each going a step nearer.

    So many things there are in all.
    """
    found, near = [], list(doors)
    while len(near) < many:
        fresh = {start: end for start, end in arrows if start not in near and end in near}
        found.extend([(start, end) for start, end in fresh.items()])
        near.extend(list(fresh))
    return found


def written_down(plan, lot, doors):
    """Two tellings of the plan with one table, unlike at the pushes from the doors to the head of the lot alone.

    The lot hangs together, and each other thing of it leads, within it, to a door.
    """
    top = head(plan, lot)
    others = [thing for thing in lot if thing != top]
    steps = steps_nearer(within(plan.arrows(), others), doors, len(others))
    bonds = both_ways(within(plan.ties(), lot))
    many = [len([low for low, _ in bonds if low == thing]) for thing in range(plan.width)]
    line = [many[thing] if thing in others else 1 for thing in range(plan.width)]
    with_top = [number + many[thing] if thing == top else number for thing, number in enumerate(line)]
    noughts = [0] * plan.width
    first = table_with(noughts, steps, 1), table_with(line, within(bonds, others), -1)
    # What the doors bring to the head, its ties take away again: each thing comes to it in just one way.
    second = table_with(noughts, steps + [(door, top) for door in doors], 1), table_with(with_top, bonds, -1)
    return first, second


def twins_of(plan, lot):
    """Twins of the plan, unlike at the arrows from the barred lot's things to its head alone."""
    check_plan(plan)
    check_lot(plan, lot)
    if not is_barred(plan, lot):
        raise NotBarred()
    top = head(plan, lot)
    return written_down(plan, lot, [start for start, end in within(plan.arrows(), lot) if end == top])


def twins(plan):
    """Twins of the plan; None if it is plain."""
    lot = bar_of(plan)
    return None if lot is None else twins_of(plan, lot)


def apart(plan, telling, other):
    """The sorted list of the arrows at which two tellings have unlike pushes."""
    check_two_tellings(plan, telling, other)
    first, second = told(telling[0]), told(other[0])
    return [(start, end) for start, end in plan.arrows() if first[start][end] != second[start][end]]


def same_table(plan, telling, other):
    """Whether the tables of two tellings are the same."""
    check_two_tellings(plan, telling, other)
    return table_of(plan, telling) == table_of(plan, other)

"""Lots of a plan: their heads, whether they hang together, whether they are barred."""

from toldpushes.checks import check_lot, check_plan, is_lot_of
from toldpushes.drawing import both_ways, reached, turned, within


def is_lot(plan, value):
    """Whether any value is a lot of the plan."""
    check_plan(plan)
    return is_lot_of(plan, value)


def head(plan, lot):
    """The thing to which all of the lot lead by arrows within it; None without one."""
    check_plan(plan)
    check_lot(plan, lot)
    against = turned(within(plan.arrows(), lot))
    for thing in lot:
        if len(reached(against, thing)) == len(lot):
            return thing
    return None


def hangs(plan, lot):
    """Whether the lot hangs together by ties within it."""
    check_plan(plan)
    check_lot(plan, lot)
    bonds = both_ways(within(plan.ties(), lot))
    return len(lot) == 0 or len(reached(bonds, lot[0])) == len(lot)


def is_barred(plan, value):
    """Whether any value is a barred lot of the plan."""
    check_plan(plan)
    if not is_lot_of(plan, value) or len(value) < 2:
        return False
    return head(plan, value) is not None and hangs(plan, value)

"""Pushes told back from a table, thing by thing along the order."""

from toldpushes.bars import check_plain
from toldpushes.checks import check_plan, check_pushes, check_symmetric, check_thing
from toldpushes.solved import solve
from toldpushes.tables import is_above, table_with
from toldpushes.tellings import lefts, own_of


def pushing(plan, thing):
    """The rising list of the things that push the thing."""
    return [start for start, end in plan.arrows() if end == thing]


def untied_before(plan, thing):
    """The rising list of the things that stand earlier in the order than the thing, and are not tied to it."""
    order, ties = plan.order(), plan.ties()
    earlier = sorted(order[:order.index(thing)])
    return [other for other in earlier if (other, thing) not in ties and (thing, other) not in ties]


def equations(plan, pushes, table, thing):
    """The equations of the thing: a tuple of rows, a number for each thing that pushes it, and of goals."""
    check_plan(plan)
    check_pushes(plan, pushes)
    check_symmetric(plan.width, table)
    check_thing(plan, thing)
    left = lefts(plan, pushes, table)
    starts, others = pushing(plan, thing), untied_before(plan, thing)
    return [[left[other][start] for start in starts] for other in others], [left[other][thing] for other in others]


def pushes_back(plan, table):
    """The pushes of a plain plan that a table tells: a tuple (pushes, thing).

    The thing is the first one along the order whose equations have no solution, and no push is told from it on;
    None if all have one.
    """
    pushes = table_with([0] * plan.width, [], 0)
    for thing in plan.order():
        rows, goals = equations(plan, pushes, table, thing)
        # A thing of a plain plan that is tied to all things earlier in the order is pushed by none.
        found = solve(rows, goals) if rows else []
        if found is None:
            return pushes, thing
        for start, push in zip(pushing(plan, thing), found):
            pushes[start][thing] = push
    return pushes, None


def told_back(plan, table):
    """The telling of a plain plan with this table; None if there is none."""
    check_plan(plan)
    check_symmetric(plan.width, table)
    check_plain(plan)
    if not is_above(table):
        return None
    pushes, thing = pushes_back(plan, table)
    return (pushes, own_of(plan, pushes, table)) if thing is None else None

"""Pushes told back from a table, thing by thing along the order."""

from toldpushes.bars import check_plain
from toldpushes.checks import check_plan, check_pushes, check_symmetric, check_thing
from toldpushes.reckon import led
from toldpushes.solved import solve
from toldpushes.tables import is_above, table_with
from toldpushes.tellings import lefts, own_of


def pushing(plan, thing):
    """The rising list of the things that push the thing."""
    return [start for start, end in plan.arrows() if end == thing]


def untied_before(plan, thing):
    """The rising list of the things that stand earlier in the order than the thing, and are not tied to it."""
    order, ties = plan.order(), plan.ties()
    earlier = sorted(order[:order.index(thing)])
    return [other for other in earlier if (other, thing) not in ties and (thing, other) not in ties]


def equations(plan, pushes, table, thing):
    """The equations of the thing: a tuple of rows, a number for each thing that pushes it, and of goals."""
    check_plan(plan)
    check_pushes(plan, pushes)
    check_symmetric(plan.width, table)
    check_thing(plan, thing)
    left = lefts(plan, pushes, table)
    starts, others = pushing(plan, thing), untied_before(plan, thing)
    return [[left[other][start] for start in starts] for other in others], [left[other][thing] for other in others]


def pushes_beside(plan, pushes, table, thing, starts):
    """The pushes from the starts to the thing that fulfil its equations beside its other pushes; None if none do.

    The other pushes to the thing are told in pushes, where those from the starts are 0.
    """
    rows, goals = equations(plan, pushes, table, thing)
    if not rows:
        # The thing is tied to all things earlier in the order: with a start it would be barred, so there is none.
        return []
    all_starts = pushing(plan, thing)
    given = [pushes[start][thing] for start in all_starts]
    places = [all_starts.index(start) for start in starts]
    return solve([[row[place] for place in places] for row in rows],
                 [goal - led(row, given) for row, goal in zip(rows, goals)])


def pushes_back(plan, table, given):
    """The pushes of a plan that a table tells beside given ones: a tuple (pushes, thing).

    Given is a dict of the pushes, Ratios, of known arrows that are enough. The thing is the first one along the order
    whose equations have no solution, and none but given pushes are told from it on; None if all have one.
    """
    pushes = table_with([0] * plan.width, [], 0)
    for (start, end), number in given.items():
        pushes[start][end] = number
    for thing in plan.order():
        starts = [start for start in pushing(plan, thing) if (start, thing) not in given]
        found = pushes_beside(plan, pushes, table, thing, starts)
        if found is None:
            return pushes, thing
        for start, push in zip(starts, found):
            pushes[start][thing] = push
    return pushes, None


def telling_back(plan, table, given):
    """The telling of a plan with this symmetric table and with given pushes; None if there is none."""
    if not is_above(table):
        return None
    pushes, thing = pushes_back(plan, table, given)
    return (pushes, own_of(plan, pushes, table)) if thing is None else None


def told_back(plan, table):
    """The telling of a plain plan with this table; None if there is none."""
    check_plan(plan)
    check_symmetric(plan.width, table)
    check_plain(plan)
    return telling_back(plan, table, {})

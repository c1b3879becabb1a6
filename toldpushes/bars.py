"""Barred lots: all of them, the least ones, the greatest ones with a head; and what can be put to a plain plan."""

from toldpushes.checks import check_plan, check_thing
from toldpushes.drawing import both_ways, choices, order_of, reached, turned, within
from toldpushes.errors import NotPlain
from toldpushes.lots import is_barred
from toldpushes.plans import Plan


def greatest_lot(plan, thing):
    """The greatest lot with this head that hangs together."""
    check_plan(plan)
    check_thing(plan, thing)
    against, bonds = turned(plan.arrows()), both_ways(plan.ties())
    left, before = list(range(plan.width)), []
    while left != before:
        before = left
        leading = reached(within(against, left), thing)
        left = sorted(reached(within(bonds, leading), thing))
    return left


def barred_lots(plan):
    """The sorted list of all barred lots."""
    check_plan(plan)
    return sorted([lot for lot in choices(list(range(plan.width))) if is_barred(plan, lot)])


def lies_in(lot, other):
    """Whether a lot lies in another one."""
    return lot != other and all([thing in other for thing in lot])


def least_bars(plan):
    """The sorted list of the barred lots in which no other one lies."""
    found = barred_lots(plan)
    return [lot for lot in found if not any([lies_in(other, lot) for other in found])]


def bar_of(plan):
    """A barred lot; None if the plan is plain."""
    check_plan(plan)
    for thing in range(plan.width):
        lot = greatest_lot(plan, thing)
        if len(lot) > 1:
            return lot
    return None


def is_plain(plan):
    """Whether no lot of the plan is barred."""
    return bar_of(plan) is None


def check_plain(plan):
    """NotPlain() unless the plan is plain."""
    if not is_plain(plan):
        raise NotPlain()


def loose_pairs(plan):
    """The sorted list of all tuples of two things, the lesser one first, that have no arrow and no tie."""
    joined = plan.arrows() + plan.ties()
    pairs = [(low, high) for low in range(plan.width) for high in range(low + 1, plan.width)]
    return [(low, high) for low, high in pairs if (low, high) not in joined and (high, low) not in joined]


def with_arrow(plan, arrow):
    """The plan with an arrow more."""
    return Plan(plan.width, [*plan.arrows(), arrow], plan.ties())


def with_tie(plan, tie):
    """The plan with a tie more."""
    return Plan(plan.width, plan.arrows(), [*plan.ties(), tie])


def makes_no_ring(plan, arrow):
    """Whether the plan's arrows and this one make no ring."""
    return len(order_of(plan.width, [*plan.arrows(), arrow])) == plan.width


def can_put(plan):
    """A tuple of two sorted lists: all arrows, and all ties, each of which alone can be put to the plain plan."""
    check_plan(plan)
    check_plain(plan)
    pairs = loose_pairs(plan)
    straight = [arrow for arrow in sorted(pairs + turned(pairs)) if makes_no_ring(plan, arrow)]
    arrows = [arrow for arrow in straight if is_plain(with_arrow(plan, arrow))]
    return arrows, [tie for tie in pairs if is_plain(with_tie(plan, tie))]

"""What leads to what in a plan, its parts by ties, and plans made of other plans."""

from toldpushes.checks import check_lot, check_order, check_plan, check_thing
from toldpushes.drawing import are_arrows, are_pairs, are_some, are_ties, both_ways, reached, turned, within
from toldpushes.errors import InvalidArrows, InvalidTies, TooMany
from toldpushes.plans import Plan
from toldpushes.sizes import MOST_THINGS


def leads(plan, start, end):
    """Whether the start leads to the end; each thing leads to itself."""
    check_plan(plan)
    check_thing(plan, start)
    check_thing(plan, end)
    return end in reached(plan.arrows(), start)


def ahead(plan, thing):
    """The rising list of all other things that lead to the thing."""
    check_plan(plan)
    check_thing(plan, thing)
    return sorted([other for other in reached(turned(plan.arrows()), thing) if other != thing])


def tie_parts(plan):
    """The sorted list of the plan's parts by ties, rising lists."""
    check_plan(plan)
    bonds = both_ways(plan.ties())
    parts = [sorted(reached(bonds, thing)) for thing in range(plan.width)]
    # Each part came up once for each of its things: it is kept for the least of them.
    return [part for thing, part in enumerate(parts) if part[0] == thing]


def with_more(plan, arrows, ties):
    """The plan with these arrows and ties, too."""
    check_plan(plan)
    size = plan.width
    if not are_pairs(size, arrows) or not are_arrows(size, [*plan.arrows(), *arrows]):
        raise InvalidArrows(arrows)
    if not are_pairs(size, ties) or not are_ties(size, [*plan.ties(), *ties]):
        raise InvalidTies(ties)
    return Plan(size, [*plan.arrows(), *arrows], [*plan.ties(), *ties])


def without(plan, arrows, ties):
    """The plan less these arrows and ties of it."""
    check_plan(plan)
    size = plan.width
    if not are_some(size, arrows, plan.arrows()):
        raise InvalidArrows(arrows)
    if not are_some(size, ties, plan.ties()):
        raise InvalidTies(ties)
    left = [arrow for arrow in plan.arrows() if arrow not in arrows]
    return Plan(size, left, [tie for tie in plan.ties() if tie not in ties])


def told_anew(size, names, arrows, ties):
    """The plan of this size in which each thing of the arrows and ties is called as names has it there."""
    new_arrows = [(names[start], names[end]) for start, end in arrows]
    new_ties = [(min(names[low], names[high]), max(names[low], names[high])) for low, high in ties]
    return Plan(size, new_arrows, new_ties)


def renamed(plan, order):
    """The plan with thing i called as the order has it at i."""
    check_plan(plan)
    check_order(plan.width, order)
    return told_anew(plan.width, order, plan.arrows(), plan.ties())


def cut(plan, lot):
    """The plan cut to the lot: its things, renumbered in sequence, with the arrows and ties between them."""
    check_plan(plan)
    check_lot(plan, lot)
    names = {thing: place for place, thing in enumerate(lot)}
    return told_anew(len(lot), names, within(plan.arrows(), lot), within(plan.ties(), lot))


def beside(plan, other):
    """Both plans beside one another, the things of the second one behind those of the first one."""
    check_plan(plan)
    check_plan(other)
    size = plan.width + other.width
    if size > MOST_THINGS:
        raise TooMany("size", MOST_THINGS)
    behind = [plan.width + thing for thing in range(other.width)]
    moved = told_anew(size, behind, other.arrows(), other.ties())
    return with_more(moved, plan.arrows(), plan.ties())

"""Tellings led from one plan to another one, and along an order."""

from toldpushes.bars import loose_pairs
from toldpushes.checks import check_order, check_plan, check_symmetric, check_telling
from toldpushes.errors import InvalidPlan
from toldpushes.full import full_back
from toldpushes.plans import Plan
from toldpushes.sizes import check_size
from toldpushes.tellings import table_of


def moved(plan, other, telling):
    """The telling of the other plan, a full one, with the table of a telling of the plan."""
    check_plan(plan)
    check_plan(other)
    if other.width != plan.width:
        raise InvalidPlan(other)
    check_telling(plan, telling)
    return full_back(other, table_of(plan, telling))


def by_order(size, order, table):
    """The telling, with this table, of the plan with all arrows along the order and no ties."""
    check_size(size)
    check_order(size, order)
    check_symmetric(size, table)
    arrows = [(start, end) for place, end in enumerate(order) for start in order[:place]]
    return full_back(Plan(size, arrows, []), table)


def all_ties(size, table):
    """The telling, with this table, of the plan with all ties and no arrows."""
    check_size(size)
    check_symmetric(size, table)
    return full_back(Plan(size, [], loose_pairs(Plan(size, [], []))), table)

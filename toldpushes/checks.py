"""The errors that belong to parameters of certain names everywhere."""

from toldpushes.drawing import are_things, is_thing
from toldpushes.errors import InvalidLot, InvalidPlan, InvalidThing
from toldpushes.plans import Plan


def check_plan(plan):
    """InvalidPlan(plan) unless it is a Plan."""
    if not isinstance(plan, Plan):
        raise InvalidPlan(plan)


def check_thing(plan, thing):
    """InvalidThing(thing) unless it is a thing of the plan."""
    if not is_thing(plan.width, thing):
        raise InvalidThing(thing)


def is_lot_of(plan, value):
    """Whether any value is a lot of the plan."""
    return are_things(plan.width, value) and list(value) == sorted(value)


def check_lot(plan, lot):
    """InvalidLot(lot) unless it is a lot of the plan."""
    if not is_lot_of(plan, lot):
        raise InvalidLot(lot)

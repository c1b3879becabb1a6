"""What belongs to a plan, and the errors that belong to parameters of certain names everywhere."""

from toldpushes.drawing import are_some, are_things, both_ways, is_thing
from toldpushes.errors import InvalidKnown, InvalidLot, InvalidOrder, InvalidPlan, InvalidPushes, InvalidTable
from toldpushes.errors import InvalidTelling, InvalidThing
from toldpushes.plans import Plan
from toldpushes.reckon import told
from toldpushes.tables import is_above, is_symmetric, is_table


def check_plan(plan):
    """InvalidPlan(plan) unless it is a Plan."""
    if not isinstance(plan, Plan):
        raise InvalidPlan(plan)


def check_thing(plan, thing):
    """InvalidThing(thing) unless it is a thing of the plan."""
    if not is_thing(plan.width, thing):
        raise InvalidThing(thing)


def is_rising(size, value):
    """Whether any value is a rising list of unlike things of a plan of this size."""
    return are_things(size, value) and list(value) == sorted(value)


def is_lot_of(plan, value):
    """Whether any value is a lot of the plan."""
    return is_rising(plan.width, value)


def check_lot(plan, lot):
    """InvalidLot(lot) unless it is a lot of the plan."""
    if not is_lot_of(plan, lot):
        raise InvalidLot(lot)


def check_order(size, order):
    """InvalidOrder(order) unless it is a list of all things of a plan of this size, each once."""
    if not are_things(size, order) or len(order) != size:
        raise InvalidOrder(order)


def are_known(plan, value):
    """Whether any value is a list of unlike arrows of the plan."""
    return are_some(plan.width, value, plan.arrows())


def check_known(plan, known):
    """InvalidKnown(known) unless it is a list of unlike arrows of the plan."""
    if not are_known(plan, known):
        raise InvalidKnown(known)


def is_table_of(size, value):
    """Whether any value is a table of this size."""
    return is_table(value) and len(value) == size


def is_symmetric_of(size, value):
    """Whether any value is a symmetric table of this size."""
    return is_table_of(size, value) and is_symmetric(value)


def check_symmetric(size, table):
    """InvalidTable(table) unless it is a symmetric table of this size."""
    if not is_symmetric_of(size, table):
        raise InvalidTable(table)


def has_noughts_but(table, pairs):
    """Whether a table has 0 at each place (i, j) that is not among the pairs."""
    numbered = [(row, place, number) for row, line in enumerate(told(table)) for place, number in enumerate(line)]
    return all([number.sign == 0 or (row, place) in pairs for row, place, number in numbered])


def are_pushes(plan, value):
    """Whether any value is a table of the plan's size with 0 wherever the plan has no arrow."""
    return is_table_of(plan.width, value) and has_noughts_but(value, plan.arrows())


def check_pushes(plan, pushes):
    """InvalidPushes(pushes) unless they are a table with 0 wherever the plan has no arrow."""
    if not are_pushes(plan, pushes):
        raise InvalidPushes(pushes)


def is_own(plan, value):
    """Whether any value is an own table of the plan: above nought, with 0 at unlike things without a tie."""
    if not is_table_of(plan.width, value) or not is_above(value):
        return False
    line = [(thing, thing) for thing in range(plan.width)]
    return has_noughts_but(value, both_ways(plan.ties()) + line)


def is_telling_of(plan, value):
    """Whether any value is a telling of the plan."""
    if not isinstance(value, tuple) or len(value) != 2:
        return False
    return are_pushes(plan, value[0]) and is_own(plan, value[1])


def check_telling(plan, telling):
    """InvalidTelling(telling) unless it is a telling of the plan."""
    if not is_telling_of(plan, telling):
        raise InvalidTelling(telling)

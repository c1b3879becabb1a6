"""Known pushes: which are enough, what a table tells beside them, and two tellings where they are not enough."""

from toldpushes.back import telling_back
from toldpushes.bars import greatest_lot
from toldpushes.checks import are_known, check_known, check_lot, check_plan, check_symmetric, check_thing
from toldpushes.drawing import within
from toldpushes.errors import InvalidNumbers, NotBarred, NotEnough
from toldpushes.lots import head, is_barred
from toldpushes.plans import Plan
from toldpushes.ratios import are_numbers, as_ratio
from toldpushes.twins import written_down


def is_known(plan, value):
    """Whether any value is a list of unlike arrows of the plan."""
    check_plan(plan)
    return are_known(plan, value)


def less_known_to(plan, known, thing):
    """The plan less the known arrows to the thing.

    Arrows make no rings, so what leads to the thing here is what leads to it with a last arrow that is not known.
    """
    left = [(start, end) for start, end in plan.arrows() if end != thing or (start, end) not in known]
    return Plan(plan.width, left, plan.ties())


def barred_by(plan, known, lot):
    """Whether the lot is barred by what is not known."""
    check_plan(plan)
    check_known(plan, known)
    check_lot(plan, lot)
    top = head(plan, lot)
    return top is not None and is_barred(less_known_to(plan, known, top), lot)


def greatest_by(plan, known, thing):
    """The greatest lot with this head that is barred by what is not known; the thing alone if there is none."""
    check_plan(plan)
    check_known(plan, known)
    check_thing(plan, thing)
    return greatest_lot(less_known_to(plan, known, thing), thing)


def lot_by(plan, known):
    """A lot that is barred by what is not known; None if the known arrows are enough."""
    check_plan(plan)
    check_known(plan, known)
    for thing in range(plan.width):
        lot = greatest_by(plan, known, thing)
        if len(lot) > 1:
            return lot
    return None


def is_enough(plan, known):
    """Whether the known arrows are enough."""
    return lot_by(plan, known) is None


def told_with(plan, known, numbers, table):
    """The telling with these numbers as pushes of the known arrows and with this table; None if there is none."""
    check_plan(plan)
    check_known(plan, known)
    if not are_numbers(numbers) or len(numbers) != len(known):
        raise InvalidNumbers(numbers)
    check_symmetric(plan.width, table)
    if not is_enough(plan, known):
        raise NotEnough()
    return telling_back(plan, table, {arrow: as_ratio(number) for arrow, number in zip(known, numbers)})


def twins_by(plan, known, lot):
    """Two tellings with one table, unlike at arrows, not known, from the lot's things to its head alone."""
    if not barred_by(plan, known, lot):
        raise NotBarred()
    top = head(plan, lot)
    arrows = within(less_known_to(plan, known, top).arrows(), lot)
    return written_down(plan, lot, [start for start, end in arrows if end == top])

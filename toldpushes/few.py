"""The fewest known arrows that are enough."""

from toldpushes.checks import check_plan
from toldpushes.drawing import choices
from toldpushes.errors import TooMany
from toldpushes.known import is_enough

MOST_ARROWS = 7


def all_fewest(plan):
    """The sorted list of all sorted lists of the fewest known arrows that are enough."""
    check_plan(plan)
    arrows = plan.arrows()
    if len(arrows) > MOST_ARROWS:
        raise TooMany("arrows", MOST_ARROWS)
    enough = [known for known in choices(arrows) if is_enough(plan, known)]
    # All arrows are enough, so there is such a list.
    many = min([len(known) for known in enough])
    return sorted([known for known in enough if len(known) == many])


def fewest_known(plan):
    """A sorted list of the fewest known arrows that are enough."""
    return all_fewest(plan)[0]


def fewest(plan):
    """How many the fewest known arrows are that are enough."""
    return len(fewest_known(plan))

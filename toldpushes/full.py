"""Full plans, which tell every table above nought, and plans filled until they are full."""

from toldpushes.back import told_back
from toldpushes.bars import check_plain, is_plain, loose_pairs, with_arrow, with_tie
from toldpushes.checks import check_plan, check_symmetric
from toldpushes.errors import NotAbove, NotFull, TooMany
from toldpushes.plans import Plan
from toldpushes.sizes import check_size
from toldpushes.tables import is_above

MOST_FULL = 4
# Four things have six pairs, each with an arrow or a tie.
MOST_DRAWN = 64
MOST_FILLINGS = 60


def is_full(plan):
    """Whether each two things of the plan have just one arrow or tie between them, and it is plain."""
    check_plan(plan)
    # No plain plan has both an arrow and a tie of two things.
    return len(loose_pairs(plan)) == 0 and is_plain(plan)


def filled_once(plan, order):
    """The plain plans made of a plain plan by an arrow along the order, or a tie, put between its first loose pair."""
    low, high = loose_pairs(plan)[0]
    arrow = (low, high) if order.index(low) < order.index(high) else (high, low)
    return [more for more in (with_arrow(plan, arrow), with_tie(plan, (low, high))) if is_plain(more)]


def filled(plan, most):
    """Fillings of a plain plan: all of them, or some, if there are more than the most that are wanted."""
    order = plan.order()
    found, waiting = [], [plan]
    # A lot stays barred with more arrows and ties, so nothing is lost with a plan that is not plain.
    while waiting and len(found) <= most:
        here = waiting.pop()
        if loose_pairs(here):
            waiting.extend(filled_once(here, order))
        else:
            found.append(here)
    return found


def sorted_plans(plans):
    """The plans, sorted by their arrows and ties."""
    return sorted(plans, key=lambda plan: (plan.arrows(), plan.ties()))


def full_plans(size):
    """The sorted list of all full plans of the size whose arrows rise."""
    check_size(size)
    if size > MOST_FULL:
        raise TooMany("size", MOST_FULL)
    # The order of the plan without arrows and ties rises.
    return sorted_plans(filled(Plan(size, [], []), MOST_DRAWN))


def full_back(plan, table):
    """The one telling of a full plan with this table above nought."""
    check_plan(plan)
    check_symmetric(plan.width, table)
    if not is_full(plan):
        raise NotFull()
    if not is_above(table):
        raise NotAbove()
    return told_back(plan, table)


def fillings(plan):
    """The sorted list of the fillings of a plain plan."""
    check_plan(plan)
    check_plain(plan)
    found = filled(plan, MOST_FILLINGS)
    if len(found) > MOST_FILLINGS:
        raise TooMany("fillings", MOST_FILLINGS)
    return sorted_plans(found)

"""Whether a table fits a plain plan, and what shows that it does not."""

from toldpushes.back import equations, pushes_back
from toldpushes.bars import check_plain
from toldpushes.basics import is_integer
from toldpushes.checks import check_plan, check_symmetric
from toldpushes.solved import barring, is_barring
from toldpushes.tables import pivots


def low_pivot(table):
    """The first place whose pivot is not above 0; None without one."""
    for place, pivot in enumerate(pivots(table)):
        if pivot.sign <= 0:
            return place
    return None


def first_amiss(plan, table):
    """What is amiss first: ("pivot", place), or ("rows", thing, rows, goals) with equations that have no solution.

    None if the table fits.
    """
    place = low_pivot(table)
    if place is not None:
        return "pivot", place
    pushes, thing = pushes_back(plan, table, {})
    if thing is None:
        return None
    rows, goals = equations(plan, pushes, table, thing)
    return "rows", thing, rows, goals


def check_all(plan, table):
    """The errors that a plan and a table have in this file."""
    check_plan(plan)
    check_symmetric(plan.width, table)
    check_plain(plan)


def fits(plan, table):
    """Whether the table is that of a telling of the plain plan."""
    check_all(plan, table)
    return first_amiss(plan, table) is None


def misfit(plan, table):
    """A misfit of the table and the plain plan; None if the table fits."""
    check_all(plan, table)
    amiss = first_amiss(plan, table)
    if amiss is None or amiss[0] == "pivot":
        return amiss
    word, thing, rows, goals = amiss
    return word, thing, barring(rows, goals)


def begins(value, word, at):
    """Whether any value is a tuple that begins with this word and this INTEGER."""
    if not isinstance(value, tuple) or len(value) < 2:
        return False
    return isinstance(value[0], str) and value[0] == word and is_integer(value[1]) and value[1] == at


def is_misfit(plan, table, value):
    """Whether any value is a misfit of the table and the plain plan."""
    check_all(plan, table)
    amiss = first_amiss(plan, table)
    if amiss is None or not begins(value, amiss[0], amiss[1]):
        return False
    if amiss[0] == "pivot":
        return len(value) == 2
    return len(value) == 3 and is_barring(amiss[2], amiss[3], value[2])

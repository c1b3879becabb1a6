"""Claims and their contraries, whether they are true, and papers that show it."""

from toldpushes.back import told_back
from toldpushes.bars import is_plain
from toldpushes.basics import fresh, is_count
from toldpushes.checks import are_known, is_lot_of, is_symmetric_of, is_telling_of
from toldpushes.drawing import is_thing
from toldpushes.errors import InvalidClaim
from toldpushes.few import MOST_ARROWS, fewest, fewest_known
from toldpushes.fits import fits, is_misfit, misfit
from toldpushes.known import barred_by, is_enough, lot_by
from toldpushes.plans import Plan
from toldpushes.reckon import told
from toldpushes.roads import is_joined, is_road_between, road_between
from toldpushes.tellings import table_of
from toldpushes.twins import are_twins, twins

LINES = (("plain", "barred"), ("fits", "misfits"), ("joined", "nought"), ("enough", "lacks"), ("few", "needs"))


def words():
    """The list of the tuples of the two words of each line, in their sequence."""
    return list(LINES)


def is_word_of(line, value):
    """Whether any value is one of the two words of a line."""
    return isinstance(value, str) and value in line


def line_of(word):
    """The line of which any value is a word; None if it is no word of a claim."""
    for line in LINES:
        if is_word_of(line, word):
            return line
    return None


def are_parts(line, plan, parts):
    """Whether any values are such parts, behind the Plan, as the claims of a line have."""
    first = line[0]
    if first == "plain":
        return len(parts) == 0
    if first == "joined":
        return len(parts) == 2 and all([is_thing(plan.width, part) for part in parts])
    if len(parts) != 1:
        return False
    if first == "fits":
        return is_symmetric_of(plan.width, parts[0])
    if first == "enough":
        return are_known(plan, parts[0])
    return is_count(parts[0]) and parts[0] <= MOST_ARROWS


def is_claim(value):
    """Whether any value is a claim."""
    if not isinstance(value, tuple) or len(value) < 2 or not isinstance(value[1], Plan):
        return False
    line = line_of(value[0])
    return line is not None and are_parts(line, value[1], value[2:])


def check_claim(claim):
    """InvalidClaim(claim) unless it is a claim."""
    if not is_claim(claim):
        raise InvalidClaim(claim)


def is_first_true(line, plan, parts):
    """Whether the claim with the first word of the line is true."""
    match line[0]:
        case "plain":
            return is_plain(plan)
        case "fits":
            return fits(plan, *parts)
        case "joined":
            return is_joined(plan, *parts)
        case "enough":
            return is_enough(plan, *parts)
        case _:
            return fewest(plan) <= parts[0]


def is_true(claim):
    """Whether the claim is true."""
    check_claim(claim)
    line = line_of(claim[0])
    return is_first_true(line, claim[1], claim[2:]) == (claim[0] == line[0])


def contrary(claim):
    """The contrary claim."""
    check_claim(claim)
    first, second = line_of(claim[0])
    return (second if claim[0] == first else first, *fresh(claim[1:]))


def paper_of(claim):
    """A paper that shows that the claim is true; None if it is not, or if its kind has none."""
    if not is_true(claim):
        return None
    plan, parts = claim[1], claim[2:]
    match claim[0]:
        case "barred":
            return twins(plan)
        case "fits":
            return told_back(plan, *parts)
        case "misfits":
            return misfit(plan, *parts)
        case "joined":
            return road_between(plan, *parts)
        case "lacks":
            return lot_by(plan, *parts)
        case "few":
            return fewest_known(plan)
        case _:
            return None


def is_telling_with(plan, table, value):
    """Whether any value is a telling of the plan with this table."""
    return is_telling_of(plan, value) and table_of(plan, value) == told(table)


def is_lot_that_lacks(plan, known, value):
    """Whether any value is a lot of the plan that is barred by what is not known."""
    return is_lot_of(plan, value) and barred_by(plan, known, value)


def are_few(plan, many, value):
    """Whether any value is a list of at most so many unlike arrows of the plan that are enough."""
    return are_known(plan, value) and len(value) <= many and is_enough(plan, value)


def is_paper_of(claim, value):
    """Whether any value is a paper of the claim."""
    check_claim(claim)
    plan, parts = claim[1], claim[2:]
    match claim[0]:
        case "barred":
            return are_twins(plan, value)
        case "fits":
            return is_telling_with(plan, *parts, value)
        case "misfits":
            # Of a plan that is not plain nothing is a paper, though whether the table fits is not told.
            return is_plain(plan) and is_misfit(plan, *parts, value)
        case "joined":
            return is_road_between(plan, *parts, value)
        case "lacks":
            return is_lot_that_lacks(plan, *parts, value)
        case "few":
            return are_few(plan, *parts, value)
        case _:
            return False

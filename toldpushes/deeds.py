"""What deeds do: the page of a desk behind a deed."""

from toldpushes.back import told_back
from toldpushes.checks import is_rising
from toldpushes.claims import is_true
from toldpushes.commands import parsed
from toldpushes.errors import InvalidLot, InvalidTable, NoneThere, TooMany, UnlikeSizes
from toldpushes.moved import moved
from toldpushes.pages import Page, check_labels, claim_in, state_of, told_states, values_of
from toldpushes.plans import Plan
from toldpushes.sizes import MOST_THINGS
from toldpushes.tables import is_table
from toldpushes.tellings import table_of
from toldpushes.ways import beside, cut, renamed, with_more, without

MOST_NAMES = 12
MOST_LABELS = 12

# The kind of what a deed with a NEW keeps.
MADE = {"plan": "PLAN", "table": "TABLE", "pair": "PAIR", "lot": "LOT", "more": "PLAN", "less": "PLAN",
        "rename": "PLAN", "cut": "PLAN", "beside": "PLAN", "tableof": "TABLE", "back": "PAIR", "moved": "PAIR"}


def some_table(rows):
    """The table of these rows."""
    if not is_table(rows):
        raise InvalidTable(rows)
    return rows


def some_pair(rows, others):
    """The tuple of the tables of these rows."""
    found = some_table(rows), some_table(others)
    if len(rows) != len(others):
        raise UnlikeSizes()
    return found


def some_lot(counts):
    """The lot of these things."""
    if not is_rising(MOST_THINGS, counts):
        raise InvalidLot(counts)
    return counts


def some_telling(plan, table):
    """The telling of the plan with this table."""
    found = told_back(plan, table)
    if found is None:
        raise NoneThere()
    return found


def made(word, values):
    """What a deed with a NEW keeps, made of the values behind it."""
    match word:
        case "plan":
            return Plan(*values)
        case "table":
            return some_table(*values)
        case "pair":
            return some_pair(*values)
        case "lot":
            return some_lot(*values)
        case "more" | "put":
            return with_more(*values)
        case "less" | "take":
            return without(*values)
        case "rename":
            return renamed(*values)
        case "cut":
            return cut(*values)
        case "beside":
            return beside(*values)
        case "tableof":
            return table_of(*values)
        case "back":
            return some_telling(*values)
        case _:
            return moved(*values)


def with_kept(page, name, kept):
    """The page with all this kept, which is otherwise under the name alone."""
    states = {label: state_of(kept, text) if name in text.split(" ") else page.states[label]
              for label, text in page.claims.items()}
    return Page(kept, page.claims, states)


def with_one(page, name, kind, value):
    """The page with the value of this kind kept under the name."""
    return with_kept(page, name, {**page.kept, name: (kind, value)})


def without_one(page, name):
    """The page with nothing kept under the name."""
    return with_kept(page, name, {other: page.kept[other] for other in page.kept if other != name})


def noted(page, label, text):
    """The page with a claim, given by the words behind its label, noted under the label."""
    # What is no claim is refused here, too.
    state = "true" if is_true(claim_in(page.kept, text)) else "false"
    if len(page.claims) == MOST_LABELS:
        raise TooMany("labels", MOST_LABELS)
    return Page(page.kept, {**page.claims, label: text}, {**page.states, label: state})


def forgotten(page, label):
    """The page with nothing noted under the label."""
    left = [other for other in page.claims if other != label]
    return Page(page.kept, {other: page.claims[other] for other in left}, {other: page.states[other] for other in left})


def with_new(page, word, values):
    """The page with the NEW of a deed kept, which is the first of the values."""
    found = made(word, values[1:])
    if len(page.kept) == MOST_NAMES:
        raise TooMany("names", MOST_NAMES)
    return with_one(page, values[0], MADE[word], found)


def page_behind(page, line):
    """The page of a desk behind a deed."""
    word, kinds, parts = parsed(line)
    check_labels(page, kinds, parts)
    if word == "claim":
        return noted(page, parts[0], line.split(" ", 2)[2])
    if word == "forget":
        return forgotten(page, parts[0])
    values = values_of(page.kept, kinds, parts)
    if word == "drop":
        return without_one(page, parts[0])
    if word in MADE:
        return with_new(page, word, values)
    return with_one(page, parts[0], "PLAN", made(word, values))


def changes(before, page):
    """How the states of the labels of a page are other ones than those of the page before."""
    return told_states(page.states, [label for label in page.claims if page.states[label] != before.states.get(label)])

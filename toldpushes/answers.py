"""What a desk answers to commands that are no deeds."""

from toldpushes.bars import greatest_lot, least_bars
from toldpushes.commands import parsed
from toldpushes.few import fewest
from toldpushes.full import is_full
from toldpushes.lots import head
from toldpushes.pages import check_labels, kind_of, told_states, values_of
from toldpushes.roads import is_joined
from toldpushes.tellings import is_telling
from toldpushes.twins import apart


def told_counts(counts):
    """COUNTS, as in commands."""
    return ",".join([str(count) for count in counts]) or "-"


def told_joins(joins):
    """JOINS, as in commands."""
    return ";".join([f"{start}:{end}" for start, end in joins]) or "none"


def told_rows(table):
    """ROWS, as in commands."""
    return ";".join([",".join([str(number) for number in row]) for row in table]) or "none"


def told_lots(lots):
    """Lots, each as COUNTS."""
    return ";".join([told_counts(lot) for lot in lots]) or "none"


def told_whether(holds):
    """Whether this holds, in a word."""
    return "yes" if holds else "no"


def shown(kind, value):
    """What is kept, of this kind."""
    match kind:
        case "PLAN":
            return f"{value.width} {told_joins(value.arrows())} {told_joins(value.ties())}"
        case "TABLE":
            return told_rows(value)
        case "PAIR":
            return " ".join([told_rows(table) for table in value])
        case _:
            return told_counts(value)


def head_told(plan, lot):
    """The head of the lot, a COUNT, or that there is none."""
    found = head(plan, lot)
    return "none" if found is None else str(found)


def told_of_kept(word, values):
    """The answer to a command that asks about plans, and tables, pairs and lots with them."""
    match word:
        case "order":
            return told_counts(values[0].order())
        case "bars":
            return told_lots(least_bars(*values))
        case "head":
            return head_told(*values)
        case "greatest":
            return told_counts(greatest_lot(*values))
        case "joined":
            return told_whether(is_joined(*values))
        case "full":
            return told_whether(is_full(*values))
        case "telling":
            return told_whether(is_telling(*values))
        case "apart":
            return told_joins(apart(*values))
        case "fewest":
            return str(fewest(*values))
        case _:
            return told_whether(values[0] == values[1])


def answer(page, line):
    """The answer to a command that is no deed, and takes none back and does none again."""
    word, kinds, parts = parsed(line)
    check_labels(page, kinds, parts)
    values = values_of(page.kept, kinds, parts)
    match word:
        case "state":
            return page.states[parts[0]]
        case "states":
            return told_states(page.states, page.claims)
        case "claimed":
            return page.claims[parts[0]]
        case "names":
            return " ".join(sorted(page.kept)) or "-"
        case "show":
            return shown(kind_of(page.kept, parts[0]), values[0])
        case _:
            return told_of_kept(word, values)

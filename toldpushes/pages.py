"""What a desk keeps and notes at a time, and the states of its claims."""

from toldpushes.basics import fresh
from toldpushes.claims import is_true
from toldpushes.commands import parsed_claim
from toldpushes.errors import InvalidClaim, LabelTaken, NameTaken, NotPlain, TooMany, UnknownLabel, UnknownName

KEPT_KINDS = ("PLAN", "TABLE", "PAIR", "LOT")


class Page:
    """Dicts of what is kept under names, noted under labels, and of these claims' states; it never changes.

    What is kept is a tuple of its kind and itself, a claim stands in the words behind its label.
    """

    def __init__(self, kept, claims, states):
        self.kept = kept
        self.claims = claims
        self.states = states


def kind_of(kept, name):
    """The kind of what is kept under the name."""
    if name not in kept:
        raise UnknownName(name)
    return kept[name][0]


def kept_as(kept, kind, name):
    """What is kept under the name, of this kind, with new lists."""
    if kind_of(kept, name) != kind:
        raise UnknownName(name)
    # An error or an answer may have it in the end: then nothing that is kept hangs on it.
    return fresh(kept[name][1])


def check_noted(page, label):
    """UnknownLabel(label) unless any value is the label of a claim that is noted."""
    if not isinstance(label, str) or label not in page.claims:
        raise UnknownLabel(label)


def check_labels(page, kinds, parts):
    """NameTaken of a NEW, LabelTaken of a FREE label that is taken; UnknownLabel of a LABEL that is none."""
    for kind, part in zip(kinds, parts):
        if kind == "NEW" and part in page.kept:
            raise NameTaken(part)
        if kind == "FREE" and part in page.claims:
            raise LabelTaken(part)
        if kind == "LABEL":
            check_noted(page, part)


def values_of(kept, kinds, parts):
    """The list of what the parts of these kinds stand for: names of what is kept for this, all others for themselves.

    UnknownName of the first name under which nothing of its kind is kept.
    """
    found, ahead = [], None
    for kind, part in zip(kinds, parts):
        if kind == "NAME":
            kind_here = kind_of(kept, part)
        else:
            kind_here = ahead if kind == "OTHER" else kind
        found.append(kept_as(kept, kind_here, part) if kind_here in KEPT_KINDS else part)
        ahead = kind_here
    return found


def claim_in(kept, text):
    """The tuple of a claim, given by the words behind its label, with what is kept now; it may be no claim."""
    kinds, parts = parsed_claim(text)
    return tuple(values_of(kept, kinds, parts))


def state_of(kept, text):
    """The state of a claim, given by the words behind its label."""
    try:
        return "true" if is_true(claim_in(kept, text)) else "false"
    except (UnknownName, InvalidClaim, NotPlain, TooMany):
        return "gone"


def claim_now(page, label):
    """The claim of a label, with what is kept now; None while its state is gone."""
    check_noted(page, label)
    return None if page.states[label] == "gone" else claim_in(page.kept, page.claims[label])


def told_states(states, labels):
    """These labels, sorted, each with its state."""
    return ", ".join([f"{label} {states[label]}" for label in sorted(labels)]) or "-"

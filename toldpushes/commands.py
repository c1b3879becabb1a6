"""The words of commands: which there are, what stands behind each, and what these parts mean."""

from toldpushes.words import are_digits, count_of, number_of

LETTERS = "abcdefghijklmnopqrstuvwxyz"
MOST_SIGNS = 8
MOST_COUNT_DIGITS = 2
MOST_DIGITS = 6
MOST_NUMBER_SIGNS = 14
MOST_COUNTS = 6
MOST_JOINS = 30
MOST_ROWS = 6

# The kinds of the parts behind each word. COUNT, COUNTS, JOINS and ROWS mean something by themselves; all others are
# names, or labels: a LABEL is that of a claim that is noted, a FREE one that of none.
DEEDS = {
    "plan": ("NEW", "COUNT", "JOINS", "JOINS"),
    "table": ("NEW", "ROWS"),
    "pair": ("NEW", "ROWS", "ROWS"),
    "lot": ("NEW", "COUNTS"),
    "more": ("NEW", "PLAN", "JOINS", "JOINS"),
    "less": ("NEW", "PLAN", "JOINS", "JOINS"),
    "rename": ("NEW", "PLAN", "COUNTS"),
    "cut": ("NEW", "PLAN", "LOT"),
    "beside": ("NEW", "PLAN", "OTHER"),
    "tableof": ("NEW", "PLAN", "PAIR"),
    "back": ("NEW", "PLAN", "TABLE"),
    "moved": ("NEW", "PLAN", "OTHER", "PAIR"),
    "put": ("PLAN", "JOINS", "JOINS"),
    "take": ("PLAN", "JOINS", "JOINS"),
    "drop": ("NAME",),
    "forget": ("LABEL",),
}
# Those behind the WORD of a claim, which has the form of a name. It stands in a command behind `claim` and a FREE
# label.
CLAIMS = {
    "plain": ("PLAN",),
    "barred": ("PLAN",),
    "fits": ("PLAN", "TABLE"),
    "misfits": ("PLAN", "TABLE"),
    "joined": ("PLAN", "COUNT", "COUNT"),
    "nought": ("PLAN", "COUNT", "COUNT"),
    "enough": ("PLAN", "JOINS"),
    "lacks": ("PLAN", "JOINS"),
    "few": ("PLAN", "COUNT"),
    "needs": ("PLAN", "COUNT"),
}
OTHERS = {
    "undo": (),
    "redo": (),
    "state": ("LABEL",),
    "states": (),
    "claimed": ("LABEL",),
    "names": (),
    "show": ("NAME",),
    "order": ("PLAN",),
    "bars": ("PLAN",),
    "head": ("PLAN", "LOT"),
    "greatest": ("PLAN", "COUNT"),
    "joined": ("PLAN", "COUNT", "COUNT"),
    "full": ("PLAN",),
    "telling": ("PLAN", "PAIR"),
    "apart": ("PLAN", "PAIR", "OTHER"),
    "fewest": ("PLAN",),
    "same": ("NAME", "OTHER"),
}


def is_name(value):
    """Whether any value is a name."""
    if not isinstance(value, str) or not 1 <= len(value) <= MOST_SIGNS or value[0] not in LETTERS:
        return False
    return all([sign in LETTERS or are_digits(sign) for sign in value])


def all_or_none(found):
    """What was found; None if a part of it is None."""
    return None if any([part is None for part in found]) else found


def parts_of(word, sign, most, meaning):
    """The list of what the parts of a word mean, the sign standing between them; None without a meaning.

    There are at most so many parts.
    """
    parts = word.split(sign)
    return all_or_none([meaning(part) for part in parts]) if len(parts) <= most else None


def short_count(word):
    """The COUNT of at most two digits that is written so; None if there is none."""
    return count_of(word) if len(word) <= MOST_COUNT_DIGITS else None


def is_short(number):
    """Whether a Ratio has at most six digits above and below the stroke."""
    return all([len(str(part)) <= MOST_DIGITS for part in (number.size().top, number.bottom)])


def short_number(word):
    """The NUMBER of at most six digits above and below the stroke that is written so; None if there is none."""
    number = number_of(word) if len(word) <= MOST_NUMBER_SIGNS else None
    return number if number is not None and is_short(number) else None


def counts_of(word):
    """The list of COUNTS that is written so; None if there is none."""
    return [] if word == "-" else parts_of(word, ",", MOST_COUNTS, short_count)


def join_of(word):
    """The tuple of two COUNTS that is written so; None if there is none."""
    found = parts_of(word, ":", 2, short_count)
    return tuple(found) if found is not None and len(found) == 2 else None


def joins_of(word):
    """The list of tuples of two COUNTS that is written so; None if there is none."""
    return [] if word == "none" else parts_of(word, ";", MOST_JOINS, join_of)


def row_of(word):
    """The list of NUMBERS that is written so; None if there is none."""
    return parts_of(word, ",", MOST_ROWS, short_number)


def rows_of(word):
    """The list of rows that is written so; None if there is none."""
    return [] if word == "none" else parts_of(word, ";", MOST_ROWS, row_of)


MEANINGS = {"COUNT": short_count, "COUNTS": counts_of, "JOINS": joins_of, "ROWS": rows_of}


def part_of(kind, word):
    """What a word means as a part of this kind; None if it means nothing."""
    if kind in MEANINGS:
        meaning = MEANINGS[kind]
        return meaning(word)
    return word if is_name(word) else None


def parts_with(kinds, words):
    """The list of what the words mean as parts of these kinds; None if one means nothing, or with more or fewer."""
    if len(words) != len(kinds):
        return None
    return all_or_none([part_of(kind, word) for kind, word in zip(kinds, words)])


def kinds_behind(words):
    """The kinds of the parts behind the first word; None if no command begins with these words."""
    if words[0] == "claim":
        return ("FREE", "WORD", *CLAIMS[words[2]]) if len(words) > 2 and words[2] in CLAIMS else None
    return DEEDS[words[0]] if words[0] in DEEDS else OTHERS.get(words[0])


def parsed(value):
    """A tuple of any command's word, and of the kinds and the list of its parts; None of any value that is none."""
    if not isinstance(value, str):
        return None
    words = value.split(" ")
    kinds = kinds_behind(words)
    parts = None if kinds is None else parts_with(kinds, words[1:])
    return None if parts is None else (words[0], kinds, parts)


def parsed_claim(text):
    """A tuple of the kinds and the list of the parts of a claim, given by the words behind its label."""
    words = text.split(" ")
    kinds = ("WORD", *CLAIMS[words[0]])
    return kinds, parts_with(kinds, words)


def is_command(value):
    """Whether any value is a string that is a command by its words alone."""
    return parsed(value) is not None


def is_deed(value):
    """Whether any value is a deed."""
    found = parsed(value)
    return found is not None and found[0] not in OTHERS

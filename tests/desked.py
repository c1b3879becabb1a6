"""A slow desk for the tests: it does all deeds anew, from the first one, for each command."""

from toldpushes import back, bars, claims, errors, few, full, lots, moved, roads, tables, tellings, twins, ways
from toldpushes.plans import Plan
from toldpushes.ratios import Ratio

FAMILIES = (errors.PlanError, errors.MissingError, errors.StateError, errors.LimitError)

# Which kinds of things the names of a command stand for, at which of its words.
NAMED = {"more": "2p", "less": "2p", "rename": "2p", "cut": "2p 3l", "beside": "2p 3p", "tableof": "2p 3a", "back": "2p 3t", "moved": "2p 3p 4a",
         "put": "1p", "take": "1p", "order": "1p", "bars": "1p", "head": "1p 2l", "greatest": "1p", "joined": "1p", "full": "1p",
         "telling": "1p 2a", "apart": "1p 2a 3a", "fewest": "1p", "plain": "1p", "barred": "1p", "fits": "1p 2t", "misfits": "1p 2t",
         "nought": "1p", "enough": "1p", "lacks": "1p", "few": "1p", "needs": "1p"}
NEW = "plan table pair lot more less rename cut beside tableof back moved".split()
DEEDS = NEW + "put take drop claim forget".split()


def number(word):
    top, _, bottom = word.partition("/")
    return Ratio(int(top), int(bottom or 1))


def rows(word):
    return [] if word == "none" else [[number(part) for part in row.split(",")] for row in word.split(";")]


def joins(word):
    return [] if word == "none" else [tuple(int(part) for part in join.split(":")) for join in word.split(";")]


def counts(word):
    return [] if word == "-" else [int(part) for part in word.split(",")]


def told_rows(table):
    return ";".join(",".join(str(worth) for worth in row) for row in table) if table else "none"


def told_joins(pairs):
    return ";".join(f"{start}:{end}" for start, end in pairs) if pairs else "none"


def told_counts(things):
    return ",".join(str(thing) for thing in things) if things else "-"


def table_made(word):
    if not tables.is_table(rows(word)):
        raise errors.InvalidTable(rows(word))
    return rows(word)


def pair_made(word, other):
    made = table_made(word), table_made(other)
    if len(made[0]) != len(made[1]):
        raise errors.UnlikeSizes()
    return made


def lot_made(word):
    things = counts(word)
    if things != sorted(set(things)) or any(thing > 5 for thing in things):
        raise errors.InvalidLot(things)
    return things


def telling_made(plan, table):
    told = back.told_back(plan, table)
    if told is None:
        raise errors.NoneThere()
    return told


class Slow:
    """As a Desk, but without papers; it takes commands alone, and only such as are commands by their words."""

    def __init__(self):
        self.things = {}
        self.claims = {}
        self.done = []
        self.left = []

    def kept(self, name, kind):
        if name not in self.things or (kind and self.things[name][0] != kind):
            raise errors.UnknownName(name)
        return self.things[name][1]

    def named(self, words):
        """The values of the names among the words."""
        if words[0] == "show":
            return [self.kept(words[1], None)]
        if words[0] == "same":
            self.kept(words[1], None)
            return [self.kept(words[1], None), self.kept(words[2], self.things[words[1]][0])]
        return [self.kept(words[int(place)], kind) for place, kind in NAMED.get(words[0], "").split()]

    def claim(self, words):
        """The tuple of a claim, in the words behind the label."""
        values = self.named(words)
        if words[0] in ("joined", "nought"):
            values += [int(words[2]), int(words[3])]
        if words[0] in ("enough", "lacks"):
            values.append(joins(words[2]))
        if words[0] in ("few", "needs"):
            values.append(int(words[2]))
        return (words[0], *values)

    def state(self, label):
        try:
            return "true" if claims.is_true(self.claim(self.claims[label])) else "false"
        except FAMILIES:
            return "gone"

    def states(self):
        return {label: self.state(label) for label in self.claims}

    def made(self, words):
        """The kind of a NEW, and what it is."""
        word, values, rest = words[0], self.named(words), words[2:]
        if word == "plan":
            return "p", Plan(int(rest[0]), joins(rest[1]), joins(rest[2]))
        if word == "table":
            return "t", table_made(rest[0])
        if word == "pair":
            return "a", pair_made(*rest)
        if word == "lot":
            return "l", lot_made(rest[0])
        if word in ("more", "less"):
            call = ways.with_more if word == "more" else ways.without
            return "p", call(values[0], joins(rest[1]), joins(rest[2]))
        if word == "rename":
            return "p", ways.renamed(values[0], counts(rest[1]))
        call, kind = {"cut": (ways.cut, "p"), "beside": (ways.beside, "p"), "tableof": (tellings.table_of, "t"), "back": (telling_made, "a"),
                      "moved": (moved.moved, "a")}[word]
        return kind, call(*values)

    def change(self, words):
        """What a deed does."""
        word, name = words[0], words[1]
        if word in NEW:
            if name in self.things:
                raise errors.NameTaken(name)
            made = self.made(words)
            if len(self.things) == 12:
                raise errors.TooMany("names", 12)
            self.things[name] = made
        elif word in ("put", "take"):
            call = ways.with_more if word == "put" else ways.without
            self.things[name] = "p", call(self.kept(name, "p"), joins(words[2]), joins(words[3]))
        elif word == "drop":
            self.kept(name, None)
            del self.things[name]
        elif word == "claim":
            if name in self.claims:
                raise errors.LabelTaken(name)
            claim = self.claim(words[2:])
            claims.is_true(claim)
            if len(self.claims) == 12:
                raise errors.TooMany("labels", 12)
            self.claims[name] = words[2:]
        else:
            if name not in self.claims:
                raise errors.UnknownLabel(name)
            del self.claims[name]

    def anew(self, lines):
        """All of these deeds, from the first one on."""
        self.things, self.claims = {}, {}
        for line in lines:
            self.change(line.split(" "))
        self.done = lines

    def do(self, command):
        word, *rest = words = command.split(" ")
        if word in DEEDS:
            before = self.states()
            self.change(words)
            if len(self.done) == 300:
                self.anew(self.done)
                raise errors.TooMany("deeds", 300)
            self.done, self.left = self.done + [command], []
            changed = [f"{label} {state}" for label, state in sorted(self.states().items()) if before.get(label) != state]
            return ", ".join(changed) or "-"
        if word == "undo":
            if not self.done:
                raise errors.NothingToUndo()
            self.left.append(self.done[-1])
            self.anew(self.done[:-1])
            return self.left[-1]
        if word == "redo":
            if not self.left:
                raise errors.NothingToRedo()
            self.anew(self.done + [self.left[-1]])
            return self.left.pop()
        return self.answer(word, rest, self.named(words))

    def answer(self, word, rest, values):
        if word in ("state", "claimed"):
            if rest[0] not in self.claims:
                raise errors.UnknownLabel(rest[0])
            return self.state(rest[0]) if word == "state" else " ".join(self.claims[rest[0]])
        if word == "states":
            return ", ".join(f"{label} {state}" for label, state in sorted(self.states().items())) or "-"
        if word == "names":
            return " ".join(sorted(self.things)) or "-"
        if word == "show":
            kind = self.things[rest[0]][0]
            return {"p": lambda plan: f"{plan.width} {told_joins(plan.arrows())} {told_joins(plan.ties())}", "t": told_rows, "l": told_counts,
                    "a": lambda pair: f"{told_rows(pair[0])} {told_rows(pair[1])}"}[kind](values[0])
        if word == "head":
            return str(lots.head(*values)).lower()
        if word == "bars":
            return ";".join(told_counts(lot) for lot in bars.least_bars(*values)) or "none"
        if word == "same":
            return "yes" if values[0] == values[1] else "no"
        things = [int(count) for count in rest[1:]] if word in ("greatest", "joined") else []
        call = {"order": lambda plan: plan.order(), "greatest": bars.greatest_lot, "joined": roads.is_joined, "full": full.is_full,
                "telling": tellings.is_telling, "apart": twins.apart, "fewest": few.fewest}[word]
        told = call(*values, *things)
        if word in ("joined", "full", "telling"):
            return "yes" if told else "no"
        return told_joins(told) if word == "apart" else str(told) if word == "fewest" else told_counts(told)

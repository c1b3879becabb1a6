"""Desks beside the slow desk that does all deeds anew: drawn commands, answers, errors, and what is kept."""

import random
import unittest

from tests.desked import FAMILIES, Slow
from tests.kinds import same
from toldpushes.claims import is_true
from toldpushes.commands import is_command, is_deed
from toldpushes.desk import Desk
from toldpushes.errors import LimitError, MissingError, PlanError, StateError, UnknownLabel, UnknownName

NAMES, LABELS = ["p", "q", "r", "u", "t", "s", "x", "a", "b", "c", "l", "m", "n"], ["k", "n", "p", "o1", "z"]
JOINS = ["none", "none", "none", "0:1", "1:2", "0:2", "0:1;1:2", "1:0", "2:0", "0:1;0:2;1:2", "0:3", "0:0", "0:1;0:1", "1:2;0:1"]
ROWS = ["none", "1", "1,2;2,5", "1,2;2,1", "1,2,7;2,5,17;7,17,61", "2,0,1;0,1,0;1,0,3", "1,0,0;0,1,0;0,0,1", "0,2,0;0,0,3;0,0,0", "0,0;0,0",
        "1,0;0,1",
        "1,2;3,4", "1,2;3", "0,1/2;0,0", "3,-1/2,0;-1/2,2,0;0,0,1", "1,0,1;0,1,0;1,0,4", "1,1;1,2"]
COUNTS = ["-", "0", "0,1", "0,1,2", "2,0,1", "1,0", "0,2", "1,2", "5", "6", "0,0"]
# A third of the walks begin with these, so that what wants much comes about, too.
AHEAD = ["plan p 3 0:1;1:2 0:2", "pair a 0,2,0;0,0,3;0,0,0 1,0,1;0,1,0;1,0,4", "tableof t p a", "plan q 3 0:1;0:2;1:2 none", "plan r 2 0:1 none",
         "lot l 0,2", "lot m 0,1"]


def drawn_command(chance, kept):
    """A command; names are mostly of the kind that is wanted, and new ones mostly free."""
    def name(kind):
        some = [one for one in NAMES if one in kept and kept[one][0] == kind]
        return chance.choice(some) if some and chance.random() < 0.95 else chance.choice(NAMES)

    def new():
        free = [one for one in NAMES if one not in kept]
        return chance.choice(free) if free and chance.random() < 0.9 else chance.choice(NAMES)

    def plan():
        return name("p")

    def joins():
        return chance.choice(JOINS)

    def rows():
        return chance.choice(ROWS)

    def count():
        return str(chance.choice([0, 1, 2, 2, 3, 7]))

    def label():
        return chance.choice(LABELS)

    return chance.choice([
        f"plan {new()} {chance.choice('233330')} {joins()} {joins()}", f"plan {new()} 2 {joins()} {joins()}", f"table {new()} {rows()}",
        f"pair {new()} {rows()} {rows()}", f"lot {new()} {chance.choice(COUNTS)}", f"more {new()} {plan()} {joins()} {joins()}",
        f"less {new()} {plan()} {joins()} {joins()}", f"rename {new()} {plan()} {chance.choice(COUNTS)}", f"cut {new()} {plan()} {name('l')}",
        f"beside {new()} {plan()} {plan()}", f"tableof {new()} {plan()} {name('a')}", f"back {new()} {plan()} {name('t')}",
        f"moved {new()} {plan()} {plan()} {name('a')}", f"put {plan()} {joins()} {joins()}", f"take {plan()} {joins()} {joins()}",
        f"put {plan()} none 0:1", f"take {plan()} none 0:1", f"drop {chance.choice(NAMES)}", f"drop {chance.choice(NAMES)}",
        f"claim {label()} {chance.choice(['plain', 'barred'])} {plan()}",
        f"claim {label()} {chance.choice(['fits', 'misfits'])} {plan()} {name('t')}",
        f"claim {label()} {chance.choice(['joined', 'nought'])} {plan()} {count()} {count()}",
        f"claim {label()} {chance.choice(['enough', 'lacks'])} {plan()} {joins()}",
        f"claim {label()} {chance.choice(['few', 'needs'])} {plan()} {count()}", f"forget {label()}", f"forget {label()}", "undo", "redo",
        f"state {label()}",
        "states", f"claimed {label()}", "names", f"show {chance.choice(NAMES)}", f"order {plan()}", f"bars {plan()}", f"head {plan()} {name('l')}",
        f"greatest {plan()} {count()}", f"joined {plan()} {count()} {count()}", f"full {plan()}", f"telling {plan()} {name('a')}",
        f"apart {plan()} {name('a')} {name('a')}", f"fewest {plan()}", f"same {chance.choice(NAMES)} {chance.choice(NAMES)}",
        f"same {plan()} {plan()}"])


def outcome(call, command):
    """The answer, or the kind of the error with what it has."""
    try:
        return call(command), None
    except FAMILIES as error:
        return type(error), vars(error)


def parts_alike(told, wanted):
    """Whether both are None, or dicts with the same names and with values that are the same throughout."""
    if told is None or wanted is None:
        return told is wanted
    return list(told) == list(wanted) and all(same(told[name], wanted[name]) for name in told)


class Walks(unittest.TestCase):

    def check_alike(self, desk, slow):
        kinds = {"p": "Plan", "t": "list", "a": "tuple", "l": "list"}
        self.assertEqual([desk.names, desk.labels, len(desk), desk.lines()], [sorted(slow.things), sorted(slow.claims), len(slow.done), slow.done])
        for name in NAMES:
            self.assertIs(name in desk, name in slow.things)
            if name in slow.things:
                kind, value = slow.things[name]
                self.assertTrue(same(desk[name], value))
                self.assertEqual(type(desk[name]).__name__, kinds[kind])
            else:
                self.assertRaises(UnknownName, desk.__getitem__, name)
        for label in LABELS:
            if label in slow.claims:
                state = slow.state(label)
                told = desk.claim_of(label)
                self.assertTrue(same(told, None if state == "gone" else slow.claim(slow.claims[label])))
                if told is not None:
                    self.assertIs(is_true(told), state == "true")
            else:
                self.assertRaises(UnknownLabel, desk.claim_of, label)

    def check_walk(self, seed, steps):
        chance, desk, slow, found = random.Random(seed), Desk(), Slow(), []
        for at in range(steps):
            command = AHEAD[at] if at < len(AHEAD) and seed % 3 == 0 else drawn_command(chance, slow.things)
            self.assertIs(is_command(command), True, command)
            wanted = outcome(slow.do, command)
            call = chance.choice([desk.do, desk, lambda command: desk.do_all(command)[0] if wanted[1] is None else desk.do(command)])
            told = outcome(call, command)
            self.assertEqual(told[0], wanted[0], (command, slow.done))
            self.assertTrue(parts_alike(told[1], wanted[1]), (command, told, wanted))
            self.check_alike(desk, slow)
            found.append((command.split(" ")[0], wanted[1] is None, wanted[0]))
        self.check_alike(Desk.again(desk.lines()), slow)
        return found

    def test_walks(self):
        found = []
        for seed in range(90):
            found += self.check_walk(1000 + seed, 150)
        # Each word was answered, and refused, where it can be; each kind of error came.
        done = {word for word, good, _ in found if good}
        self.assertEqual(len(done), 17 + 17)
        refused = {word for word, good, _ in found if not good}
        self.assertEqual(done - refused, {"states", "names"})
        wrong = {error.__name__ for _, good, error in found if not good}
        self.assertLessEqual({"NameTaken", "LabelTaken", "UnknownName", "UnknownLabel", "NothingToRedo", "NothingToUndo", "InvalidArrows",
                              "InvalidTies", "InvalidTable",
                              "InvalidLot", "InvalidOrder", "InvalidPlan", "InvalidTelling", "InvalidThing", "InvalidClaim", "UnlikeSizes", "NotFull",
                              "NotPlain", "NoneThere"}, wrong)
        changed = {told for _, good, told in found if good and isinstance(told, str)}
        self.assertTrue(any("gone" in told and "," in told for told in changed))

    def test_families(self):
        self.assertEqual(FAMILIES, (PlanError, MissingError, StateError, LimitError))
        self.assertIs(is_deed("undo"), False)


if __name__ == "__main__":
    unittest.main()

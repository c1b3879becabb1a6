"""Claims, their contraries, and papers."""

import copy
import random
import unittest

from tests.drawn import all_ties, closed, drawings
from tests.kinds import ALL_KINDS, Stubborn, check_fresh, check_refused, check_stopped, check_too_many, lists_in, looped, same
from tests.reckoned import of_fractions, of_ratios
from tests.test_few import fewest_by_definition
from tests.test_full import all_plans
from tests.test_known import NO_KNOWN, lots_by, made_enough
from tests.told import bars_of, lots_of, some_own, some_pushes, some_symmetric, some_tellings, table_by_definition
from tests.wrong import LINE, NO_SYMMETRIC, NO_TELLINGS, NO_THINGS, OWN, PUSHES
from toldpushes.back import told_back
from toldpushes.claims import contrary, is_claim, is_paper_of, is_true, paper_of, words
from toldpushes.errors import InvalidClaim, NotPlain
from toldpushes.fits import is_misfit
from toldpushes.plans import Plan
from toldpushes.ratios import Ratio
from toldpushes.tellings import is_telling, ones, table_of
from toldpushes.twins import are_twins, twins

LINES = [("plain", "barred"), ("fits", "misfits"), ("joined", "nought"), ("enough", "lacks"), ("few", "needs")]
WORDS = [word for line in LINES for word in line]
WITH_PAPERS = {"barred", "fits", "misfits", "joined", "lacks", "few"}
BOW = Plan(2, [(0, 1)], [(0, 1)])
EIGHT = Plan(6, [(0, 1), (0, 2), (0, 3), (0, 4), (0, 5), (1, 2), (1, 3), (1, 4)], [(0, 1)])


def with_words(line, *parts):
    return [(word, *parts) for word in line]


def claims_of(plan, telling, chance):
    """Claims of the plan, true ones and others, of all words, that is_true does not refuse."""
    found = with_words(LINES[0], plan)
    if not bars_of(plan):
        table = of_ratios(table_by_definition(telling))
        found += with_words(LINES[1], plan, table) + with_words(LINES[1], plan, some_symmetric(plan.width, chance))
        if plan.width > 1:
            table = [list(row) for row in table]
            table[0][1] = table[1][0] = table[0][1] + 1
            found += with_words(LINES[1], plan, table)
    things = [(chance.randrange(plan.width), chance.randrange(plan.width)) for _ in range(3 if plan.width else 0)]
    for start, end in things:
        found += with_words(LINES[2], plan, start, end)
    for known in ([], plan.arrows(), made_enough(plan, chance), chance.sample(plan.arrows(), len(plan.arrows()) // 2)):
        found += with_words(LINES[3], plan, known)
    if len(plan.arrows()) < 6:
        for many in {0, 1, chance.randrange(8)}:
            found += with_words(LINES[4], plan, many)
    return found


def some_claims(seed):
    chance = random.Random(seed)
    return [claim for plan, telling in some_tellings(seed) for claim in claims_of(plan, telling, chance)]


def is_first_true(line, plan, *parts):
    """Whether the claim with the first word of the line is true, straight by the definitions."""
    first = line[0]
    if first == "plain":
        return not bars_of(plan)
    if first == "fits":
        found = told_back(plan, parts[0])
        return found is not None and table_by_definition(found) == of_fractions(parts[0])
    if first == "joined":
        start, end = parts
        down = closed(plan.width, plan.arrows())
        tops = [(thing, thing) for thing in range(plan.width)] + plan.ties() + [(high, low) for low, high in plan.ties()]
        return any((up, start) in down and (other, end) in down for up, other in tops)
    if first == "enough":
        return not lots_by(plan, parts[0])
    return len(fewest_by_definition(plan)[0]) <= parts[0]


CLAIMS = some_claims(161)
NO_CLAIMS = ALL_KINDS + [
    (word,) for word in WORDS] + [[word, LINE] for word in WORDS] + [("plain", LINE, []), ("plain", LINE, None), ("barred", LINE, [0, 1]),
    ["plain", LINE], ("Plain", LINE), ("plain ", LINE), ("", LINE), (None, LINE), (0, LINE), (True, LINE), (Stubborn(), LINE), (["plain"], LINE),
    (("plain", "barred"), LINE), (("plain",), LINE), (b"plain", LINE), (looped(), LINE), (LINE, "plain"), ("plain", "LINE"), ("plain", [LINE]),
    ("plain", Stubborn()), ("plain", None), ("plain", Plan), ("states", LINE),
    ("plain", (3, [], [])), {"plain": LINE}, "plain", ("plain", LINE, LINE),
    (("plain", LINE),), ("fits", LINE), ("misfits", LINE, OWN, OWN), ("joined", LINE), ("joined", LINE, 0), ("nought", LINE, 0, 1, 2),
    ("joined", LINE, (0, 1)), ("joined", LINE, 0, 3), ("joined", LINE, 3, 0), ("joined", LINE, -1, 0), ("nought", LINE, 0, True),
    ("nought", LINE, False, 0),
    ("joined", LINE, Ratio(0), 1), ("joined", LINE, 0, "1"), ("joined", Plan(0, [], []), 0, 0), ("enough", LINE), ("enough", LINE, [], []),
    ("few", LINE), ("few", LINE, 8), ("needs", LINE, 8), ("few", LINE, -1), ("few", LINE, True), ("needs", LINE, False), ("few", LINE, Ratio(1)),
    ("few", LINE, "1"), ("few", LINE, None), ("few", LINE, [1]), ("needs", LINE, 10 ** 30), ("few", LINE, 1, 1), ("few", LINE, Stubborn())]
NO_CLAIMS += [(word, LINE, table) for word in ("fits", "misfits") for table in NO_SYMMETRIC]
NO_CLAIMS += [(word, LINE, known) for word in ("enough", "lacks") for known in NO_KNOWN]
NO_CLAIMS += [parts for word in ("joined", "nought") for thing in NO_THINGS if not same(thing, 2) for parts in ((word, LINE, 0, thing),
                                                                                                                (word, LINE, thing, 2))]


class Claims(unittest.TestCase):

    def test_words(self):
        self.assertEqual(words(), LINES)
        self.assertEqual([type(words())] + [type(line) for line in words()], [list] + [tuple] * 5)
        check_fresh(self, words)

    def test_is_claim(self):
        for value in NO_CLAIMS:
            self.assertIs(is_claim(value), False, value)
        for claim in CLAIMS:
            self.assertIs(is_claim(claim), True)
            self.assertIs(is_claim(value=list(claim)), False)
            self.assertIs(is_claim((*claim, claim[-1])), False)
            self.assertIs(is_claim(claim[:-1]), False)

    def test_nothing_is_decided_for_it(self):
        # Of a plan that is not plain, with arrows that make no sense of it, with more than seven arrows.
        for word in ("fits", "misfits"):
            self.assertIs(is_claim((word, BOW, ((1, 2), [2, 1]))), True)
            self.assertIs(is_claim((word, Plan(0, [], []), ())), True)
        for word in ("few", "needs"):
            for many in range(8):
                self.assertIs(is_claim((word, EIGHT, many)), True)
        for word in ("enough", "lacks"):
            self.assertIs(is_claim((word, LINE, ((1, 2), (0, 1)))), True)
            self.assertIs(is_claim((word, LINE, ())), True)

    def test_is_true(self):
        found = {}
        for claim in CLAIMS[::3]:
            [line] = [line for line in LINES if claim[0] in line]
            wanted = is_first_true(line, *claim[1:]) == (claim[0] == line[0])
            self.assertIs(is_true(claim), wanted, claim)
            self.assertIs(is_true(claim=contrary(claim)), not wanted)
            found.setdefault(claim[0], set()).add(wanted)
        self.assertEqual(found, {word: {True, False} for word in WORDS})

    def test_all_plans_of_three_things(self):
        for plan in all_plans(3):
            for line, *parts in [(LINES[0],), (LINES[2], 0, 2), (LINES[2], 1, 1), (LINES[3], plan.arrows()[1:]), (LINES[4], 1)]:
                wanted = is_first_true(line, plan, *parts)
                self.assertEqual([is_true((word, plan, *parts)) for word in line], [wanted, not wanted])

    def test_contrary(self):
        for claim in CLAIMS:
            told = contrary(claim)
            [line] = [line for line in LINES if claim[0] in line]
            self.assertEqual((type(told), told[0]), (tuple, line[1 - line.index(claim[0])]))
            # The parts as they were passed, with new lists; a Plan never changes.
            self.assertTrue(all(same(one, other) for one, other in zip(told[1:], claim[1:])) and len(told) == len(claim))
            self.assertFalse({id(one) for one in lists_in(told)} & {id(one) for one in lists_in(claim)})
            self.assertTrue(same(contrary(claim=told), claim))

    def test_contrary_tells_what_was_passed(self):
        for parts in ((LINE, ((2, Ratio(0), 1), [0, 1, 0], (1, 0, Ratio(6, 2)))), (LINE, [[2, 0, 1], (0, 1, 0), [1, 0, 3]])):
            self.assertTrue(same(contrary(("fits", *parts)), ("misfits", *parts)))
        self.assertTrue(same(contrary(("lacks", LINE, ((1, 2),))), ("enough", LINE, ((1, 2),))))
        table = [[1, 0], [0, 1]]
        told = contrary(("fits", Plan(2, [], []), table))
        table[0][0] = 5
        self.assertEqual(told[2], [[1, 0], [0, 1]])
        told[2][0][0] = 7
        self.assertEqual(table, [[5, 0], [0, 1]])


class Papers(unittest.TestCase):

    def test_paper_of(self):
        some = set()
        for claim in CLAIMS:
            paper = paper_of(claim)
            if is_true(claim) and claim[0] in WITH_PAPERS:
                self.assertIs(is_paper_of(claim, paper), True, (claim, paper))
                self.assertIs(is_paper_of(contrary(claim), paper), False)
                self.assertTrue(same(paper_of(claim=claim), paper))
                some.add(claim[0])
            else:
                self.assertIsNone(paper)
        self.assertEqual(some, WITH_PAPERS)

    def test_papers_by_the_definitions(self):
        for claim in CLAIMS:
            word, plan, paper = claim[0], claim[1], paper_of(claim)
            if paper is None:
                continue
            if word == "barred":
                self.assertTrue(are_twins(plan, paper))
            elif word == "fits":
                self.assertTrue(is_telling(plan, paper) and table_of(plan, paper) == of_ratios(of_fractions(claim[2])))
            elif word == "misfits":
                self.assertTrue(is_misfit(plan, claim[2], paper))
            elif word == "joined":
                up, down = paper
                self.assertEqual((up[0], down[-1], type(up), type(down), type(paper)), (claim[2], claim[3], list, list, tuple))
                self.assertTrue(all(step in plan.arrows() for step in [*zip(down, down[1:]), *zip(up[1:], up)]))
                self.assertTrue(up[-1] == down[0] or tuple(sorted((up[-1], down[0]))) in plan.ties())
            elif word == "lacks":
                self.assertIn(paper, lots_by(plan, claim[2]))
            else:
                self.assertTrue(type(paper) is list and len(paper) <= claim[2] and not lots_by(plan, paper))

    def test_no_value_is_a_paper_of_both(self):
        chance = random.Random(162)
        papers = [paper for paper in map(paper_of, CLAIMS) if paper is not None]
        for claim in CLAIMS[::4]:
            other = contrary(claim)
            for paper in chance.sample(papers, 25) + [[], (), [0, 1], ([0], [0]), ([], [])]:
                found = [is_paper_of(claim, paper), is_paper_of(other, paper)]
                self.assertLess(sum(found), 2)
                self.assertLessEqual({type(one) for one in found}, {bool})
                if found[0]:
                    self.assertIs(is_true(claim), True)

    def test_values_of_all_kinds(self):
        for claim in CLAIMS[::7]:
            for value in ALL_KINDS:
                self.assertIn(is_paper_of(claim, value), (True, False))
        for line, *parts in [(LINES[0], LINE), (LINES[1], LINE, OWN), (LINES[2], LINE, 0, 2)]:
            for word in line:
                for value in ALL_KINDS + [looped(), (looped(), looped()), (Stubborn(), Stubborn()), ("pivot", Stubborn()), ("rows", 1, Stubborn())]:
                    self.assertIs(is_paper_of((word, *parts), value), False)
        for word in ("plain", "nought", "enough", "needs"):
            parts = {"plain": (), "nought": (0, 1), "enough": ([],), "needs": (0,)}[word]
            for value in ALL_KINDS:
                self.assertIs(is_paper_of((word, Plan(2, [], []), *parts), value), False)

    def test_barred(self):
        one, two = found = twins(BOW)
        loose = tuple(tuple(tuple(tuple(row) for row in table) for table in telling) for telling in found)
        self.assertEqual([is_paper_of(("barred", BOW), value) for value in (found, loose, (two, one), (one, one), [one, two], (one,), one, None)],
                         [True, True, True, False, False, False, False, False])
        self.assertEqual([is_paper_of(("plain", BOW), found), is_paper_of(("barred", Plan(2, [(0, 1)], [])), found)], [False, False])
        other = copy.deepcopy(found)
        other[1][1][1][1] = other[1][1][1][1] + 1
        self.assertIs(is_paper_of(value=other, claim=("barred", BOW)), False)

    def test_fits(self):
        table = table_of(LINE, (PUSHES, OWN))
        claim = ("fits", LINE, table)
        for telling in ((PUSHES, OWN), (tuple(map(tuple, PUSHES)), OWN), (of_ratios(of_fractions(PUSHES)), tuple(OWN))):
            self.assertIs(is_paper_of(claim, telling), True)
            self.assertIs(is_paper_of(("misfits", LINE, table), telling), False)
            self.assertIs(is_paper_of(("fits", LINE, OWN), telling), False)
        for value in NO_TELLINGS + [ones(LINE), (PUSHES, [[2, 0, 1], [0, 1, 0], [1, 0, 4]]), ([[0, 2, 0], [0, 0, 1], [0, 0, 0]], OWN)]:
            self.assertIs(is_paper_of(claim, value), False)

    def test_misfits(self):
        lone, table, low = Plan(2, [], []), [[1, 1], [1, 2]], [[1, 2], [2, 1]]
        for value, wanted in ((("rows", 1, [5]), True), (("rows", 1, (Ratio(-1, 2),)), True), (("rows", 1, [0]), False), (("rows", 0, [5]), False),
                              (["rows", 1, [5]], False), (("rows", 1, [5, 1]), False), (("rows", True, [5]), False), (("pivot", 1), False),
                              (("rows", 1), False),
                              (("rows", 1, [True]), False), (("rows", 1, 5), False), (("rows", 1, [5], 1), False),
                              (([[0, 0], [0, 0]], table), False)):
            self.assertIs(is_paper_of(("misfits", lone, table), value), wanted, value)
            self.assertIs(is_paper_of(("fits", lone, table), value), False)
        for value, wanted in ((("pivot", 1), True), (("pivot", 0), False), (("pivot", True), False), (["pivot", 1], False),
                              (("pivot", 1, []), False)):
            self.assertIs(is_paper_of(("misfits", lone, low), value), wanted)
        self.assertEqual([paper_of(("misfits", lone, low)), paper_of(("fits", lone, low)), paper_of(("misfits", lone, [[1, 0], [0, 2]]))],
                         [("pivot", 1), None, None])

    def test_joined(self):
        claim = ("joined", LINE, 2, 0)
        for value, wanted in ((([2, 1, 0], [0]), True), (((2, 1, 0), (0,)), True), (([2], [0]), True), (([0], [0, 1, 2]), False), (([0], [2]), False),
                              (([2, 1], [0]), False), (([2, 0], [0]), False), ([[2, 1, 0], [0]], False), (([2, 1, 0],), False),
                              (([2, 1, 0], [0, 1]), False),
                              (([2, 1, 0], []), False), (([], [0]), False), (([2, True, 0], [0]), False), (([2, 1, 0], [False]), False),
                              (([2, 1, 0], [0], []), False)):
            self.assertIs(is_paper_of(claim, value), wanted, value)
            self.assertIs(is_paper_of(("nought", LINE, 2, 0), value), False)
        # More roads than are told as a list: one is told all the same.
        for plan in (Plan(6, all_ties(6), []), Plan(6, all_ties(6), all_ties(6))):
            self.assertIs(is_paper_of(("joined", plan, 5, 5), paper_of(("joined", plan, 5, 5))), True)

    def test_lacks(self):
        three = Plan(3, [(0, 1), (1, 2)], [(0, 1), (0, 2)])
        claim = ("lacks", three, [(0, 1)])
        for value, wanted in (([0, 1, 2], True), ((0, 1, 2), True), ([0, 1], False), ([], False), ([0], False), ([2, 1, 0], False),
                              ([0, True, 2], False),
                              ([0, 1, 2, 3], False), ({0, 1, 2}, False), ("012", False)):
            self.assertIs(is_paper_of(claim, value), wanted, value)
            self.assertIs(is_paper_of(("enough", three, [(0, 1)]), value), False)
        for drawing in drawings()[::3]:
            plan = Plan(*drawing)
            known = plan.arrows()[::2]
            for lot in lots_of(plan.width):
                self.assertIs(is_paper_of(("lacks", plan, known), lot), lot in lots_by(plan, known))

    def test_few(self):
        three = Plan(3, [(0, 1), (1, 2)], [(0, 1), (0, 2)])
        for many in range(8):
            for value, wanted in (([(0, 1), (1, 2)], many > 1), (((1, 2), (0, 1)), many > 1), ([(0, 1)], False), ([(0, 1), (0, 1)], False),
                                  ([[0, 1], [1, 2]], False),
                                  ([(0, 1), (1, 2), (0, 2)], False), ([(0, 1), (1, True)], False), ({(0, 1), (1, 2)}, False)):
                self.assertIs(is_paper_of(("few", three, many), value), wanted)
                self.assertIs(is_paper_of(("needs", three, many), value), False)
        self.assertEqual([paper_of(("few", three, many)) for many in (0, 1, 2, 7)], [None, None] + [[(0, 1), (1, 2)]] * 2)
        # More than are wanted are a paper, too.
        self.assertIs(is_paper_of(("few", BOW, 1), [(0, 1)]), True)
        self.assertIs(is_paper_of(("few", LINE, 2), [(1, 2)]), True)


class Refused(unittest.TestCase):

    def test_no_claims(self):
        for value in NO_CLAIMS:
            for call in (is_true, contrary, paper_of):
                check_refused(self, InvalidClaim, value, call, value)
                check_refused(self, InvalidClaim, value, call, claim=value)
            check_refused(self, InvalidClaim, value, is_paper_of, value, None)
            check_refused(self, InvalidClaim, value, is_paper_of, value=Stubborn(), claim=value)

    def test_not_plain(self):
        barred = [Plan(*drawing) for drawing in drawings() if bars_of(Plan(*drawing))][::4]
        chance = random.Random(163)
        for plan in [BOW, *barred]:
            telling = some_pushes(plan, chance), some_own(plan, chance)
            for table in (of_ratios(table_by_definition(telling)), some_symmetric(plan.width, chance)):
                for word in ("fits", "misfits"):
                    check_stopped(self, NotPlain, is_true, (word, plan, table))
                    check_stopped(self, NotPlain, paper_of, (word, plan, table))
                    self.assertEqual(contrary((word, plan, table))[2], table)
                # The value alone tells whether it is a telling with the table; nothing is a misfit.
                self.assertIs(is_paper_of(("fits", plan, table), telling), of_fractions(table) == table_by_definition(telling))
                for value in (("pivot", 0), ("pivot", 1), ("rows", 0, []), ("rows", 1, [1]), telling, None):
                    self.assertIs(is_paper_of(("misfits", plan, table), value), False)
        self.assertIs(is_paper_of(("misfits", BOW, [[1, 2], [2, 1]]), ("pivot", 1)), False)

    def test_too_many_arrows(self):
        for word in ("few", "needs"):
            for many in (0, 7):
                for call in (is_true, paper_of):
                    check_too_many(self, "arrows", 7, call, (word, EIGHT, many))
                self.assertEqual(contrary((word, EIGHT, many))[1:], (EIGHT, many))
        # A value is a paper, or none, all the same.
        self.assertEqual([is_paper_of(("few", EIGHT, 1), value) for value in ([(0, 1)], [(0, 2)], [], [(0, 1), (0, 2)])], [True, False, False, False])
        self.assertEqual([is_true(("enough", EIGHT, [(0, 1)])), is_true(("lacks", EIGHT, []))], [True, True])
        check_refused(self, InvalidClaim, ("few", EIGHT, 8), is_true, ("few", EIGHT, 8))

    def test_fresh(self):
        three = Plan(3, [(0, 1), (1, 2)], [(0, 1), (0, 2)])
        table = table_of(LINE, (PUSHES, OWN))
        for claim in (("barred", BOW), ("fits", LINE, table), ("misfits", LINE, OWN), ("joined", LINE, 0, 2), ("lacks", three, [(0, 1)]),
                      ("few", three, 2)):
            check_fresh(self, paper_of, claim)
            check_fresh(self, contrary, claim)
            check_fresh(self, is_true, claim)
            check_fresh(self, is_paper_of, claim, paper_of(claim))


if __name__ == "__main__":
    unittest.main()
